import PyProof.Rows.All
import Wide.All
import OpenK.AllK
import Wide.FinOn
import Open.SpecLaws
import KE.OsGo
import KE.GoesRaise
import HandS.ForSpec
import HandS.Comp
import HandS.ExcCtx
import PyProof.EqAt
import PyProof.EqKinds
import PyProof.TupleCall
import HandS.ExcInitHot
import KE.GoesEnumKw
import KE.GoesMore
import HandS.ForMost
import HandS.More
import HandS.Zip
import HandS.SortKw
import PySf47
import KE.IntTextLaws
import HandS.IsInst
import HandS.Flow
import HandS.NoneIn
import HandS.CallSlots
import HandS.StrMore
import PySem.Challenge.RW_scanlist_s01_check
import HandS.Walk
import HandS.SuiteRaise
import HandS.RaiseFrom
import HandS.WordsExc
import HandS.Spec
set_option Elab.async false
set_option linter.all false
set_option maxRecDepth 100000
set_option maxHeartbeats 4000000
namespace Sl
open PySem PySem.Spec PyProof.Rows L2
/-! ### a list comprehension whose element is a call that may raise -/
/-- what a call of the block Y lets out -/
def BlkAir (X Y : Cx) (WB : XK) : Value → Shared → Prop := fun u s' => ∃ pins σ H s, Inv Y pins σ H s ∧ L2N.CX X.prog X.w X.stack H s WB u s'
abbrev blkX (X : Cx) (s : Shared) (H : Hp) (scope : Scope) (ce : Env) (fp : List Addr) (WB : XK) : Cx := (X.blk s H scope ce fp).wish (BlkAir X (X.blk s H scope ce fp) WB)
theorem pass_blk {X : Cx} {s : Shared} {H : Hp} {scope : Scope} {ce : Env} {fp : List Addr} {WB : XK} (σ : L2.St) : PassesAt (L2N.CX X.prog X.w) (blkX X s H scope ce fp WB) σ WB :=
  fun pins H' s1 e s' I c => ⟨pins, σ, H', s1, I.unwish, c⟩
theorem frames_less {h B B' : Heap} (k : ∀ b, B.get? b = none → B'.get? b = none) : ∀ {l : List Env}, h.FunFrames B l → h.FunFrames B' l
  | [], _ => trivial
  | _ :: _, ⟨x, ⟨L, o, y1, y2, y3⟩, z⟩ => ⟨x, ⟨L, o, y1, k L y2, y3⟩, frames_less k z⟩
section
variable {X : Cx} {WB : XK}
theorem blk_out {pins : List (Addr × Obj)} {σ : L2.St} {H3 : Hp} {s3 s' : Shared} {scope : Scope} {ce : Env} {fp : List Addr} {u : Value} (hs : X.stack = X.env :: X.outer) (hf : X.env.frame = some X.env.locals)
    (tk : L2N.Takes X (fun cls d _ H => WB cls d H)) (hce : ce.frame = X.env.frame) (I3 : Inv X pins σ H3 s3) (f3 : ∀ b ∈ fp, FpOk X pins H3 b) (hC : s3.heap.objs.size ≤ ce.locals)
    (x : BlkAir X (X.blk s3 H3 scope ce fp) WB u s') : notedBy (model X.prog X.w) X.A ce (CompFails (model X.prog X.w) X.A X.xe ce) u s' := by
  obtain ⟨pn, σb, Hb, sb, Ib, c⟩ := x
  have J : Inv X pins σ Hb sb := I3.call' (ch := fp) Ib.os Ib.base Ib.hok Ib.bare fun b hb => ⟨(f3 b hb).2.2.2.1, (f3 b hb).2.1, (f3 b hb).2.2.2.2.1, (f3 b hb).2.2.2.2.2⟩
  obtain ⟨mC, hnC, _⟩ := Ib.loc
  have hnC : sb.heap.Ns ce.locals mC := hnC
  have nCb : Hb ce.locals = none := Ib.free
  have FC : ∀ H' : Hp, H' ce.locals = none → FpOk X pins H' ce.locals := fun H' n => I3.fpOk hC n
  obtain ⟨_, cL, cF, cO, cC, cP⟩ := FC Hb nCb
  have cS : ce.locals ∉ frs X.stack := fun hm => (List.mem_cons.mp (I3.stkSub _ hm)).elim cL cF
  obtain ⟨a, B, H', cls, d, rfl, fl, hok, ub, na, os, ag, hE⟩ := c
  obtain ⟨oC, es, ep, goC, hdC, restC⟩ := id hnC
  have nC' : H' ce.locals = none := ub.free _ _ goC nCb
  have hnC' : s'.heap.Ns ce.locals mC := ⟨oC, es, ep, fl.1 _ _ (ub.keep _ _ goC nCb cS), hdC, restC⟩
  have x2 : L2N.XE X (fun cls d _ H => WB cls d H ∧ H ce.locals = none) (.ref a) s' := L2N.XE.of_call J (fun _ _ _ h => h) ⟨a, B, H', cls, d, rfl, fl, hok, ub, na, os, ag, hE, nC'⟩
  clear fl hok ub na os ag hE
  obtain ⟨a2, B2, sI, pins2, σ2, H2, cls2, d2, e2, I2, nb, up, sky, na2, os2, ag2, w2, nC2⟩ := x2
  cases e2
  have I2' : Inv X [] σ2 H2 sI := I2.pins_of (fun p hp => absurd hp (by simp))
  have hfr : X.A.frames = some (X.env :: X.outer) := by rw [I2.ok.frames, hs]
  show wpAny _ X.A (noteFrame (.ref a) ce) _ _ s'
  rw [noteFrame_env _ hce]
  rw [hs] at sky
  have fin : ∀ h1, HandSPX.HeldZ B2 (X.env :: X.outer) a (L2N.Zn cls2 d2) X.env.locals h1 → s'.heap.UpToSlots h1 → CompFails (model X.prog X.w) X.A X.xe ce (.ref a) { s' with heap := h1 } := by
    intro h1 held up1
    have hn1 : h1.Ns ce.locals mC := hnC'.upToSlots up1
    refine ⟨mC, hn1, fun h2 m2 hn2 hsb => ?_⟩
    have hsb : Heap.SameBut ce.locals h1 h2 := hsb
    obtain ⟨B3, b1, b2⟩ := restrict B2 fun b => decide (b ≠ ce.locals)
    obtain ⟨G, g1, g2⟩ := restrict sI.heap fun b => decide (b ≠ ce.locals)
    have gB : ∀ b, b ≠ ce.locals → B3.get? b = B2.get? b := fun b hb => b1 b (decide_eq_true hb)
    have gG : ∀ b, b ≠ ce.locals → G.get? b = sI.heap.get? b := fun b hb => g1 b (decide_eq_true hb)
    have oB : ∀ b o, B3.get? b = some o → b ≠ ce.locals := fun b o e z => by rw [z, b2 _ (by simp)] at e; cases e
    have oG : ∀ b o, G.get? b = some o → b ≠ ce.locals := fun b o e z => by rw [z, g2 _ (by simp)] at e; cases e
    have lessB : ∀ b, B2.get? b = none → B3.get? b = none := fun b e => by
      cases q : B3.get? b with
      | none => rfl
      | some o => rw [gB b (oB b o q), e] at q; cases q
    obtain ⟨k1, k2, k3, oe, vs, T, oT, ts, he, hz, hd, h11, hnT, hTe, hT, hdT, h33⟩ := held
    obtain ⟨oL, esL, epL, goL, hdL, _⟩ := id hn1
    have neF : ∀ {b : Addr} {o : Obj} {fs : Array Value}, h1.get? b = some o → o.data = .fields fs → b ≠ ce.locals := fun {b o fs} e dd z => by
      rw [z, goL] at e
      cases e
      rw [hdL] at dd
      cases dd
    have held3 : HandSPX.HeldZ B3 (X.env :: X.outer) a (L2N.Zn cls2 d2) X.env.locals h2 :=
      ⟨fun b o e => by
        have hb := oB b o e
        rw [gB b hb] at e
        exact (hsb.2 b hb).trans (k1 b o e), lessB _ k2, frames_less lessB (Heap.FunFrames.sameBut hsb hn2 k3), oe, vs, T, oT, ts, (hsb.2 _ (neF he hd)).trans he, hz, hd, h11, lessB _ hnT, hTe, (hsb.2 _ (neF hT hdT)).trans hT, hdT, h33⟩
    unfold PySem.passOn
    refine wpAny_bind (wpAny_field ((hsb.2 _ (neF he hd)).trans he) hd h11 ?_)
    rw [if_neg (show ¬ ((Value.ref T == Value.none) = true) from by simp)]
    rw [hce, hf]
    have I5 : Inv X [] σ2 H2 { sI with heap := G } := I2'.turned (t' := sI.toks) (it := ce.locals) (fun b o hb e => (gG b hb).trans e) nC2 cL cO cC fun p hp => cP p (by
      rw [List.append_nil] at hp
      exact List.mem_append_left _ hp)
    have last : wpAny (model X.prog X.w) X.A (setFlight (.ref a) (some X.env.locals)) (fun _ s4 => wpAny (model X.prog X.w) X.A (throw (.ref a) : Sem Value) (fun _ _ => False) X.xe s4) X.xe { s' with heap := h2 } := by
      refine HandSPX.setFlight_onZ (s := { s' with heap := h2 }) held3 fun h4 held4 up4 => wpAny_throw (tk _ _ ?_)
      refine ⟨a, B3, { sI with heap := G }, [], σ2, H2, cls2, d2, rfl, I5, fun b o e hb => ?_, fun b o e hnf => ?_, .inr (.inr (by rw [hs]; exact held4)), na2, os2, ag2, w2⟩
      · have z := oG b o e
        rw [gB b z]
        rw [gG b z] at e
        exact nb b o e hb
      · have z := oG b o e
        have e : G.get? b = some o := e
        rw [gG b z] at e
        obtain ⟨sl1, e1⟩ := up b o e hnf
        obtain ⟨sl2, e2⟩ := up1 b _ e1 hnf
        obtain ⟨sl3, e3⟩ := up4 b _ ((hsb.2 b z).trans e2) hnf
        exact ⟨sl3, e3⟩
    first
      | exact wpAny_bind (wpAny_pure (wpAny_bind last))
      | exact wpAny_bind last
  rcases sky with ⟨q1, q2, q3, oe, vs, q4, q5, q6, q7⟩ | fl | hh
  · exact PXN.look_newZ L2N.Zn.steady hfr q3 hf q4 q1 q2 q6 q7 q5 fin
  · exact PXN.looks_onZ L2N.Zn.steady hfr hf fl fin
  · exact HandSPX.againZ hf hh.2.2.2 (fin s'.heap hh (Heap.UpToSlots.refl _))
end
/-- the comprehension's loop between two turns, m bounds the turns to come -/
def LcAt (Y : Cx) (σ : L2.St) (fp : List Addr) (tn : Nat → Heap → Prop) (W : Nat → Nat → Hp → Prop) (m : Nat) (s : Shared) : Prop := ∃ i H, Inv Y [] σ H s ∧ tn i s.heap ∧ (∀ b ∈ fp, H b = none) ∧ W i m H
section
variable {X : Cx} {WB : XK} {elt tg iter : Expr} {ifs : List Expr} {scope : Scope} {own : List (Str × Nat)} {pos : Pos} {g : TG} {tt : TT} {te : TE} {s3 : Shared} {H3 : Hp} {ce : Env} {fp : List Addr}
/-- the walk's own records are the block's to change -/
theorem blk_fp {σ : L2.St} {H : Hp} {s : Shared} (I : Inv (X.blk s3 H3 scope ce fp) [] σ H s) (free : ∀ b ∈ fp, H b = none) (b : Addr) (m : b ∈ fp) : FpOk (X.blk s3 H3 scope ce fp) [] H b :=
  have own := I.ok.exf b m
  ⟨free b m, own.1, I.ok.exfs b m, .inl m, own.2, fun p hp => nomatch (show p ∈ ([] : List (Addr × Obj)) from hp)⟩
/-- a turn's end: the records of the walk stand as they stood -/
theorem lc_next {it : Addr} {tn : Nat → Heap → Prop} {J : It} {W : Nat → Nat → Hp → Prop} {σ σ8 : L2.St} {H : Hp} {s7 s : Shared} {i n : Nat} {vs : List Nat} {Nx : Hp → Prop} (T : Turn X.prog X.w X.K tg J fp it tn) (st : tn (i + 1) s7.heap)
    (same : wipe σ8 vs = wipe σ vs) (less : ∀ H', Nx H' → ∃ m', m' < n ∧ W (i + 1) m' H') (I : Inv (X.blk s3 H3 scope ce fp) ([] ++ pinsAt fp s7.heap) σ8 H s) (nx : Nx H) : ∃ m, m < n ∧ LcAt (X.blk s3 H3 scope ce fp) (wipe σ vs) fp tn W m s := by
  have still : ∀ b ∈ fp, ∀ o, s7.heap.get? b = some o → s.heap.get? b = some o ∧ H b = none := fun b m o e =>
    have z := I.pin (b, o) (List.mem_append_right _ (List.mem_append_right _ (mem_pinsAt m e)))
    ⟨z.1, z.2.1⟩
  obtain ⟨m', lt, w⟩ := less H nx
  have J : Inv (X.blk s3 H3 scope ce fp) [] (wipe σ vs) H s := (I.unpinned (pins := [])).weak (by rw [← same, wipe_length]) fun j v e => (wipe_some (same ▸ e)).1
  exact ⟨m', lt, i + 1, H, J, T.keep _ _ _ st fun b m o e => (still b m o e).1, fun b m => (T.obj _ _ st b m).elim fun o e => (still b m o e.1).2, w⟩
theorem lc_loop {pins : List (Addr × Obj)} {σ : L2.St} {Q : VK} {it D : Addr} {tn : Nat → Heap → Prop} {J : It} {W : Nat → Nat → Hp → Prop} {m0 : Nat} {s4 : Shared} {vs : List Nat} (hc : X.calm = true) (hst : X.stack = X.env :: X.outer) (hfm : X.env.frame = some X.env.locals)
    (tk : L2N.Takes X (fun cls d _ H => WB cls d H)) (T : Turn X.prog X.w X.K tg J fp it tn) (cF : ce.frame = X.env.frame) (cL : s3.heap.objs.size ≤ ce.locals) (I3 : Inv X pins σ H3 s3) (f3 : ∀ b ∈ fp, FpOk X pins H3 b)
    (pg : PG (X.blk s3 H3 scope ce fp) tg g) (pt : PTs (X.blk s3 H3 scope ce fp) ifs tt) (pe : PE (blkX X s3 H3 scope ce fp WB) elt te)
    (turn : ∀ i m H, W i m H → (J.stop i H ∧ Q (.ref D) H) ∨ (J.go i H ∧ ∃ Nx : Hp → Prop, (∀ H', Nx H' → ∃ m', m' < m ∧ W (i + 1) m' H') ∧ ∀ x H', J.yld i H x H' → g x (wipe σ vs) H' fun σ2 H2 => wipe σ2 vs = wipe σ vs ∧ tt σ2 H2 fun b H5 =>
      if b = true then te σ2 H5 fun y H6 => ∃ acc, H6 D = some (.lst acc) ∧ acc.length < sizeLine ∧ Nx (upd H6 D (.lst (acc ++ [y]))) else Nx H5))
    (start : LcAt (X.blk s3 H3 scope ce fp) (wipe σ vs) fp tn W m0 s4) :
    codeAny (model X.prog X.w) X.A (.compLoop (.ListComp elt [⟨tg, iter, ifs, 0⟩] scope pos) 0 (.ref it) (.ref D) ce) (compEnds (model X.prog X.w) X.A X.xe none (EP X pins σ Q) (.ref D) ce) s4 := by
  refine compLoop_any (LcAt (X.blk s3 H3 scope ce fp) (wipe σ vs) fp tn W) ?_ m0 start
  rintro n s5 ⟨i, H5, I5, st5, free5, w5⟩
  rcases turn i n H5 w5 with ⟨stop, last⟩ | ⟨go, Nx, less, step⟩
  · refine thnF (T.done (X.blk s3 H3 scope ce fp) rfl rfl rfl hc i [] s5 _ H5 (fun _ _ => False) I5 (blk_fp I5 free5) st5 stop) ?_
    rintro _ s6 ⟨rfl, I6⟩
    have back : Inv X pins σ H5 s6 := I3.call' (ch := fp) I6.os I6.base I6.hok I6.bare fun b m => have z := (f3 b m).2; ⟨z.2.2.1, z.1, z.2.2.2.1, z.2.2.2.2⟩
    obtain ⟨names, hn, _⟩ := I6.loc
    have fc := I3.fpOk cL (show H5 ce.locals = none from I6.free)
    exact ⟨names, hn, fun h'' sb => ⟨.ref D, H5, back.turned (t' := s6.toks) (fun b o nb e => (sb.2 b nb).trans e) fc.1 fc.2.1 fc.2.2.2.1 fc.2.2.2.2.1 fc.2.2.2.2.2, rfl, last⟩⟩
  refine thnF (T.item (X.blk s3 H3 scope ce fp) rfl rfl rfl hc i [] s5 _ H5 (fun _ _ => False) I5 (blk_fp I5 free5) st5 go) ?_
  rintro _ s6 ⟨u, rfl, let_go⟩
  refine thnF let_go ?_
  rintro _ s7 ⟨x, H7, I7, rx, yx, st7, free7⟩
  have pinned := I7.pinned (blk_fp I7 free7) (T.obj _ _ st7)
  refine thnF (pg.run _ s7 _ H7 x u _ pinned rx (step x H7 yx)) ?_
  rintro _ s8 ⟨σ8, H8, I8, same, q8⟩
  refine thnF (pt.run _ s8 σ8 H8 _ I8 q8) ?_
  rintro b s9 ⟨H9, I9, q9⟩
  rcases b with _ | _
  · exact lc_next T st7 same less I9 (by simpa using q9)
  · have run := pe.run _ s9 σ8 H9 _ (I9.wish _) (by simpa using q9)
    refine wpAny_mono run ?_ fun e s10 x => blk_out hst hfm tk cF I3 f3 cL x
    rintro z s10 ⟨y, H10, I10, ry, acc, hD, short, nx⟩
    exact app_ok (X := X.blk s3 H3 scope ce fp) I10.unwish hD short ry fun s11 I11 => lc_next T st7 same less I11 nx
theorem pe_lcX {wi : TI} (hc : X.calm = true) (hst : X.stack = X.env :: X.outer) (hfm : X.env.frame = some X.env.locals)
    (tk : L2N.Takes X (fun cls d _ H => WB cls d H)) (hN : X.N.Nodup) (hi : PI X tg iter wi) (ok : BlkOk X.N X.env.scope scope own)
    (hg : ∀ (s : Shared) (H : Hp) (C : Addr) (cl : List (Str × Addr)) (fp : List Addr), PG (X.blk s H scope (compEnvC scope cl C X.env) fp) tg g)
    (ht : ∀ (s : Shared) (H : Hp) (C : Addr) (cl : List (Str × Addr)) (fp : List Addr), PTs (X.blk s H scope (compEnvC scope cl C X.env) fp) ifs tt)
    (he : ∀ (s : Shared) (H : Hp) (C : Addr) (cl : List (Str × Addr)) (fp : List Addr), PE (blkX X s H scope (compEnvC scope cl C X.env) fp WB) elt te)
    (hs : ∀ x, foldedSetIterable iter X.env x = pure x := by intro _; rfl) :
    PE X (.ListComp elt [⟨tg, iter, ifs, 0⟩] scope pos) (tLc wi g tt te (own.map (·.2))) := by
  constructor
  intro pins s σ H Q I h
  have cells : ∀ y ∈ scope.names, y.2 = .free → ∃ c, X.env.cells.lookup y.1 = some c := fun y m e => I.ok.has _ (ok.free y m e)
  rw [eval_ListComp]
  refine comprehension_at (use := none) rfl hs (closure_ok cells) ok.kind (fun y m e => (ok.uniq y m).trans (congrArg some e)) (wpAny_mono (hi.run pins s σ H _ I h) ?_ fun _ _ z => z)
  intro _ s1 walk
  refine wpAny_mono walk ?_ fun _ _ z => z
  rintro _ s2 ⟨it, fp, tn, J, H2, rfl, I2, T, st2, f2, q⟩
  -- the new list stands at the heap's end
  have fresh : H2 s2.heap.objs.size = none := I2.hok.fresh (Nat.le_refl _)
  obtain ⟨W, ⟨m0, w0⟩, turn⟩ := q _ fresh
  have lst := Heap.get?_push_size s2.heap (o := { cls := .type "list", data := .seq ([] : List Value).toArray }) rfl
  have up : s2.heap.StaysIn (s2.heap.push { cls := .type "list", data := .seq ([] : List Value).toArray }) := fun b o e => Heap.get?_push_of_some _ e
  have I3 : Inv X pins σ (upd H2 s2.heap.objs.size (.lst [])) { s2 with heap := s2.heap.push { cls := .type "list", data := .seq ([] : List Value).toArray } } := I2.laid (t' := s2.toks) up (Nat.le_refl _) ⟨Nat.zero_le _, [], 0, .nil, lst⟩
  have f3 : ∀ b ∈ fp, FpOk X pins (upd H2 s2.heap.objs.size (.lst [])) b ∧ b < (s2.heap.push { cls := .type "list", data := .seq ([] : List Value).toArray }).objs.size := fun b m => by
    obtain ⟨o, e, _⟩ := T.obj _ _ st2 b m
    have fb := f2 b m
    exact ⟨⟨(upd_ne (Nat.ne_of_lt (Heap.lt_size e))).trans fb.1, fb.2⟩, Heap.lt_size (up b o e)⟩
  have st3 := T.keep _ _ _ st2 fun b _ o e => up b o e
  have I4 := block_start I3 ok hN f3
  have st4 := T.keep _ _ (pushCells ((s2.heap.push { cls := .type "list", data := .seq ([] : List Value).toArray }).push { cls := .type "dict", data := .dict #[] }) scope.names) st3 fun b _ o e => pushCells_keeps _ _ _ _ (Heap.get?_push_of_some _ e)
  refine wpAny_newObj_type (newEnv_comp ?_) (show 0 ≤ sizeLine by decide)
  have loop := lc_loop (iter := iter) (pos := pos) (scope := scope) (ce := compEnvC scope (cellsFrom ((s2.heap.push { cls := .type "list", data := .seq ([] : List Value).toArray }).objs.size + 1) scope.names (cloFrom X.env.cells scope.names [])) (s2.heap.push { cls := .type "list", data := .seq ([] : List Value).toArray }).objs.size X.env) (s4 := { s2 with heap := pushCells ((s2.heap.push { cls := .type "list", data := .seq ([] : List Value).toArray }).push { cls := .type "dict", data := .dict #[] }) scope.names }) hc hst hfm tk T rfl (Nat.le_refl _) I3 (fun b m => (f3 b m).1) (hg ..) (ht ..) (he ..) turn ⟨0, _, I4, st4, fun b m => (f3 b m).1.1, w0⟩
  exact codeAny_compStart_list loop (T.self X.A 0 _ _ _ st4 loop)
end
end Sl
set_option Elab.async false
set_option linter.all false
set_option maxRecDepth 100000
set_option maxHeartbeats 4000000
/-! An own error straight under Exception whose __init__ stores one field: made, raised (also from None in an except suite), its field read. -/
namespace PySem
namespace NapX
open PySem.W PySem.Calls PyProof.Rows PySem.HandSPX Builtin Builtin.ObjectAttr
abbrev exTail : List Value := .type "Exception" :: .type "BaseException" :: .type "object" :: []
def iA (p1 p2 : Pos) : Arguments := { posonlyargs := [], args := [{ arg := "self", annotation := none, pos := p1 }, { arg := "line", annotation := none, pos := p2 }], vararg := none, kwonlyargs := [], kw_defaults := [], kwarg := none, defaults := [] }
def iB (q1 q2 q3 q4 : Pos) : List Stmt := [.Assign [.Attribute (.Name "self" q1) "line" q2] (.Name "line" q3) q4]
def iS : Scope := { kind := .function, names := [(PySem.Str.ofString "self", .local), (PySem.Str.ofString "line", .local)], isGenerator := false, isCoroutine := false, more := [] }
/-- what the written part says of the class, at C, and of its __init__, at fI -/
structure NapTxt (K : Frag) (mg : Str → Option Value) (C fI : Addr) : Prop where
  gC : mg "NotAProgram" = some (.ref C)
  cls : ∃ nm q N bs sn sub ab col dd k0 k1 k2 k3 k5, K.lookup C = some (excClassObj nm q C N bs exTail true sn sub ab col dd k0 k1 k2 k3 k5 "Exception.__new__")
  sa : findIn K (.ref C) "__setattr__" = some (some (.builtin "object.__setattr__"))
  ga : findIn K (.ref C) "__getattribute__" = some (some (.builtin "BaseException.__getattribute__"))
  gg : findIn K (.ref C) "__getattr__" = some none
  noN : findIn K (.ref C) "line" = some none
  iC : findIn K (.ref C) "__init__" = some (some (.ref fI))
  tC : typeIn K (.ref fI) = some (.type "function")
  kC : keepIn K (.ref C) = true
  exC : subIn K (.ref C) (.type "BaseException") = some true
  tyC : typeIn K (.ref C) = some (.type "type")
  hdC : hasDictIn K C = true
  te : exmOne K (.ref C) (.ref C) = some true
  fn : ∃ (oc : Value) (od : Option Addr) (doc pm : Value) (an : Option Addr) (cdv ct : Value) (osl : Array (Option Value)) (p1 p2 q1 q2 q3 q4 : Pos),
    K.lookup fI = some ⟨oc, od, .func (fnOf "__init__" "NotAProgram.__init__" (iA p1 p2) (iB q1 q2 q3 q4) iS .none .none doc pm an cdv ct), osl⟩ ∧ codeIn K cdv "NotAProgram.__init__" = true
theorem one_sz (v : Value) : [v].length ≤ sizeLine := by
  rw [sizeLine_eq]
  exact (by decide : 1 ≤ 16777216)
theorem ldN {M : Model} {s : Shared} {name : Str} {scope : Scope} {L a : Addr} {cd : Value} {m : Str → Option Value} {x : Str} {pos : Pos} {v : Value} {Q : Value → Shared → Prop} {A : Around} {E : Value → Shared → Prop} (hn : s.heap.Ns L m) (hv : m x = some v) (h : Q v s)
    (hk : scope.kind = .function := by rfl) (hl : (envOfC name scope L a cd).kindOf x = some .local := by rfl) (hd : (x == ("__debug__" : Str)) = false := by decide) :
    wpAny M A (eval (.Name x pos) (envOfC name scope L a cd)) Q E s := wpAny_Name (wpAny_loadName_local hk hl hn hv h) hd
/-- what a class's row of bases must let through -/
structure MroOk (l : List Value) : Prop where
  ob : l.contains (.type "object") = true
  ne : l.isEmpty = false
  ps : ∀ self, refuseLoop self "__setattr__" l = pure ()
theorem mro_one (C : Addr) : MroOk (.ref C :: exTail) :=
  ⟨by rw [List.contains_cons]; rw [show (exTail.contains (.type "object")) = true from by decide +kernel, Bool.or_true], rfl, fun self => by rw [refuseLoop_ref]; exact F.store_Exception.passes self⟩
theorem mro_two (C B : Addr) : MroOk (.ref C :: .ref B :: exTail) :=
  ⟨by rw [List.contains_cons, List.contains_cons]; rw [show (exTail.contains (.type "object")) = true from by decide +kernel, Bool.or_true, Bool.or_true], rfl, fun self => by rw [refuseLoop_ref, refuseLoop_ref]; exact F.store_Exception.passes self⟩
section
variable {prog : Program} {w : World} {A : Around} {E : Value → Shared → Prop} {R : Result → Shared → Prop} {hp : Heap} {g : Array GenState} {d : Drawn} {t : Nat} {os : OsState}
/-- what every store goes through: the slot's look, then the store in the own dict -/
theorem exc_to {K : W.Frag} {name : Str} {tk : Tok} {v : Value} {x C : Addr} {ox : Obj} {od : Option Obj} {cd : ClassData} (X : K.In hp) (I : W.InstAt hp x ox C od) (hcd : W.clsIn K C = some cd) (hm : MroOk cd.mro) (ha : W.findIn K (.ref C) name = some none)
    (h : wpAny (model prog w) A.in1 (storeInOwnDict (.ref x) (.ref C) (.str name tk) name v false) (fun fin s' => match fin with | .done f => R (.ok f) s' | .again c' => c'.quiet = true ∧ codeAny (model prog w) A c' R s') (fun e s' => R (.error e) s') ⟨hp, g, d, t, os⟩) :
    codeAny (model prog w) A (.call (.builtin "object.__setattr__") ⟨[.ref x, .str name tk, v], []⟩) R ⟨hp, g, d, t, os⟩ := by
  have kind := I.type (M := model prog w)
  have bases : W.Looks (model prog w) hp (mroOf (.ref C)) cd.mro := (W.looks_clsIn X hcd).andThen .now
  have taken := W.looks_findIn (M := model prog w) X ha
  have under : W.Looks (model prog w) hp (isInstance (.ref x) (.type "object")) true := kind.andThen (W.looks_mroIn X (by simp only [W.mroIn, hcd, Option.bind_some, hm.ne, hm.ob]; rfl))
  apply codeAny_call_builtin F.store_object.slot.plain F.store_object.entry
  refine W.check_slot (s := ⟨hp, g, d, t, os⟩) (i := "object.__setattr__") (owner := "object") (n := "__setattr__") (self := .ref x) (rest := [.str name tk, v]) (kw := []) F.store_object.kind F.store_object.split under (F.store_object.args (.ref x) (.str name tk) v) ?_
  rw [W.osa_eq, refuse_eq]
  have nobody : W.Looks (model prog w) hp (storeTaker? none) none := .now
  refine wpAny_bind (wpAny_bind (kind.at (wpAny_bind (bases.at ?_))))
  rw [hm.ps]
  exact wpAny_pure (wpAny_bind (kind.at (wpAny_bind (taken.at (wpAny_bind (nobody.at h))))))
/-- self.name = v, the first field -/
theorem exc_first {K : W.Frag} {name : Str} {tk : Tok} {v : Value} {x C : Addr} {fv : Array Value} {cd : ClassData} (X : K.In hp) (hx : hp.get? x = some { cls := .ref C, data := .fields fv }) (hcd : W.clsIn K C = some cd) (hm : MroOk cd.mro) (hh : cd.hasDict = true) (ha : W.findIn K (.ref C) name = some none)
    (hq : ∀ h' tk' dx, (∀ b o, b ≠ x → hp.get? b = some o → h'.get? b = some o) → hp.objs.size ≤ dx → dx ≠ x → h'.get? x = some { cls := .ref C, dict := some dx, data := .fields fv } → h'.Ns1 dx (fun y => if y = name then some v else none) → R (.ok (.ret .none)) ⟨h', g, d, tk', os⟩) :
    codeAny (model prog w) A (.call (.builtin "object.__setattr__") ⟨[.ref x, .str name tk, v], []⟩) R ⟨hp, g, d, t, os⟩ := by
  have ne : hp.objs.size ≠ x := Nat.ne_of_gt (Heap.lt_size hx)
  have looks := W.looks_clsIn (M := model prog w) X hcd
  refine exc_to X (od := none) ⟨hx, rfl, rfl, trivial⟩ hcd hm ha ?_
  rcases cd with ⟨nm, bs, mro, ns, qn, dicts, sn, sb, ab, col, del⟩
  obtain rfl : dicts = true := hh
  unfold storeInOwnDict ownDictForStores
  repeat
    first
    | with_reducible refine wpAny_loadPart_at hx ?_
    | with_reducible refine looks.at ?_
    | with_reducible refine store_in_new ?_ ?_
    | wp_step
  · -- the new dict is empty
    have there : (hp.push { cls := .type "dict", data := .dict #[] }).get? hp.objs.size = some { cls := .type "dict", data := .dict #[] } := Heap.get?_push_at rfl rfl
    exact ⟨_, #[], _, (Heap.get?_update_ne _ _ _ _ ne).trans there, rfl, fun _ m => (Array.not_mem_empty _ m).elim, fun _ => rfl⟩
  · intro h' tk' named same
    have other : ∀ b o, hp.get? b = some o → h'.get? b = ((hp.push { cls := .type "dict", data := .dict #[] }).update x fun o => { o with dict := some hp.objs.size }).get? b := fun b o e => same.2 b (Nat.ne_of_lt (Heap.lt_size e))
    exact hq h' tk' hp.objs.size (fun b o nb e => (other b o e).trans ((Heap.get?_update_ne _ _ _ _ nb).trans (Heap.get?_push_of_some _ e))) (Nat.le_refl _) ne ((other x _ hx).trans (Heap.get?_update_self _ (Heap.get?_push_of_some _ hx) rfl)) named
/-- the same for a class straight under Exception -/
theorem nap_osa {K : W.Frag} {name : Str} {tk : Tok} {v : Value} {x C : Addr} {fv : Array Value} {cd : ClassData} (X : K.In hp) (hx : hp.get? x = some { cls := .ref C, data := .fields fv }) (hcd : W.clsIn K C = some cd) (hm : cd.mro = .ref C :: exTail) (hh : cd.hasDict = true) (ha : W.findIn K (.ref C) name = some none)
    (hq : ∀ h' tk' dx, (∀ b o, b ≠ x → hp.get? b = some o → h'.get? b = some o) → hp.objs.size ≤ dx → dx ≠ x → h'.get? x = some { cls := .ref C, dict := some dx, data := .fields fv } → h'.Ns1 dx (fun y => if y = name then some v else none) → R (.ok (.ret .none)) ⟨h', g, d, tk', os⟩) :
    codeAny (model prog w) A (.call (.builtin "object.__setattr__") ⟨[.ref x, .str name tk, v], []⟩) R ⟨hp, g, d, t, os⟩ := exc_first X hx hcd (hm.symm ▸ mro_one C) hh ha hq
end
/-- what __init__ leaves of a fresh exception at x -/
structure InitEnd (h h' : Heap) (x C dx t1 : Addr) (v : Value) : Prop where
  keep : ∀ b o, b ≠ x → h.get? b = some o → h'.get? b = some o
  obj : h'.get? x = some { cls := .ref C, dict := some dx, data := .fields #[.ref t1, .none, .none, .none, .bool false, .none] }
  dbig : h.objs.size ≤ dx
  dne : dx ≠ x
  ns : h'.Ns1 dx (fun y => if y = "line" then some v else none)
/-- one is made -/
structure OwnMade (h h' : Heap) (e C d : Addr) (v : Value) : Prop where
  keep : ∀ b o, h.get? b = some o → h'.get? b = some o
  new : h.objs.size ≤ e
  obj : ∃ t1 : Addr, h'.get? e = some { cls := .ref C, dict := some d, data := .fields #[.ref t1, .none, .none, .none, .bool false, .none] }
  dbig : h.objs.size ≤ d
  dne : d ≠ e
  ns : h'.Ns1 d (fun y => if y = "line" then some v else none)
section
variable {prog : Program} {w : World} {A : Around} {E : Value → Shared → Prop} {R : Result → Shared → Prop} {s : Shared} {K : Frag} {mg : Str → Option Value} {C fI : Addr}
theorem nap_init (T : NapTxt K mg C fI) {x t0 : Addr} {v : Value} (X : K.In s.heap) (hlim : s.heap.NoLimit) (hx : s.heap.get? x = some (excO C t0)) (hroom : A.depth < recursionLimit)
    (hq : ∀ h' tk dx, InitEnd s.heap h' x C dx t0 v → R (.ok (.ret .none)) { s with heap := h', toks := tk }) :
    codeAny (model prog w) A (.call (.ref fI) ⟨[.ref x, v], []⟩) R s := by
  obtain ⟨oc, od, doc, pm, an, cdv, ct, osl, p1, p2, q1, q2, q3, q4, ho, hcd⟩ := T.fn
  obtain ⟨nm, q, N, bs, sn, sub, ab, col, dd, k0, k1, k2, k3, k5, hC⟩ := T.cls
  have hcl : clsIn K C = some { name := nm, bases := bs, mro := .ref C :: exTail, ns := N, qualname := q, hasDict := true, slotNames := sn, subclasses := sub, abstract := ab, collection := col, hasDel := false } := by unfold clsIn; rw [hC] <;> rfl
  refine Att.call_fn (binds := [("self", .ref x), ("line", v)]) X hlim ho hcd hroom (BindsTo.of_eq (by first | rfl | with_unfolding_all rfl)) (by first | rfl | decide | with_unfolding_all rfl) (fun s₁ IC => ?_) rfl rfl rfl
  obtain ⟨h₁, tk₁, rfl⟩ := IC.toInCall.same
  have k : ∀ b o, s.heap.get? b = some o → h₁.get? b = some o := IC.toInCall.keep
  have hn := IC.toInCall.ns
  have X₁ : K.In h₁ := X.keeps k
  have hx₁ := k _ _ hx
  show wpAny _ _ (execs _ _) _ _ _
  refine wpAny_execs_cons (plainObj_wpAny_Assign_Attribute ?_)
  refine ldN (v := v) hn (by first | rfl | with_unfolding_all rfl | kernel_rfl) (ldN (v := .ref x) hn (by first | rfl | with_unfolding_all rfl | kernel_rfl) ?_)
  refine set_plain X₁ (ox := excO C t0) (od := none) ⟨hx₁, rfl, rfl, trivial⟩ T.sa ?_
  refine nap_osa X₁ hx₁ hcl rfl rfl T.noN (fun h₃ tk₃ dx k₃ dn dne hx₃ hn₃ => ?_)
  show wpAny _ _ (execs _ _) _ _ _
  have z : s.heap.objs.size < h₁.objs.size := hn.lt
  exact wpAny_execs_nil (hq h₃ tk₃ dx ⟨fun b o hb e => k₃ b o hb (k b o e), hx₃, Nat.le_of_lt (Nat.lt_of_lt_of_le z dn), dne, hn₃⟩)
theorem nap_made (T : NapTxt K mg C fI) {v : Value} (X : K.In s.heap) (hlim : s.heap.NoLimit) (hroom : A.depth + 1 < recursionLimit)
    (hq : ∀ h' tk e d, OwnMade s.heap h' e C d v → R (.ok (.ret (.ref e))) { s with heap := h', toks := tk }) :
    codeAny (model prog w) A (.call (.ref C) ⟨[v], []⟩) R s := by
  obtain ⟨nm, q, N, bs, sn, sub, ab, col, dd, k0, k1, k2, k3, k5, hC⟩ := T.cls
  obtain ⟨hp, g, dr, tk, os⟩ := s
  have k : ∀ b o, hp.get? b = some o → ((hp.push (kdv_tup [v])).push (excO C hp.objs.size)).get? b = some o := fun b o e => Heap.get?_push_of_some _ (Heap.get?_push_of_some _ e)
  have hget : ((hp.push (kdv_tup [v])).push (excO C hp.objs.size)).get? (hp.objs.size + 1) = some (excO C hp.objs.size) := by heap_get
  refine call_own F.excBase_Exception (fun X => rfl) (X _ _ hC) (looks_findIn X T.iC) (fun self => bind_fn X self T.tC) (one_sz v) ?_
  refine nap_init (s := ⟨(hp.push (kdv_tup [v])).push (excO C hp.objs.size), g, dr, tk, os⟩) T (X.keeps k) (hlim.keeps k) hget ?_ fun h' tk' dx ⟨k', hx, dn, dne, hns⟩ => ?_
  · show A.depth + 1 < recursionLimit
    exact hroom
  · have old : ∀ b o, hp.get? b = some o → h'.get? b = some o := fun b o e => k' b o (Nat.ne_of_lt (Nat.lt_succ_of_lt (Heap.lt_size e))) (k b o e)
    have z : hp.objs.size + 1 + 1 ≤ dx := by
      first
        | (simpa only [Heap.size_push] using dn)
        | exact dn
        | (have q := dn; rw [Heap.size_push, Heap.size_push] at q; exact q)
    exact ⟨rfl, hq h' tk' (hp.objs.size + 1) dx ⟨old, Nat.le_succ _, ⟨_, hx⟩, Nat.le_trans (Nat.le_trans (Nat.le_succ _) (Nat.le_succ _)) z, dne, hns⟩⟩
end
end NapX
end PySem
namespace Sl
open PySem PySem.Spec PyProof.Rows L2
theorem relO_line {v : V} {v' : Value} (r : RelV v v') (f : Str) : RelO (List.lookup f [(("line" : Str), v)]) (if f = "line" then some v' else none) := by
  by_cases hw : f = "line"
  · subst hw
    rw [if_pos rfl]
    have q : List.lookup ("line" : Str) [(("line" : Str), v)] = some v := by simp [List.lookup]
    rw [q]
    exact r
  · rw [if_neg hw]
    have qw : (f == ("line" : Str)) = false := by simpa using hw
    have q2 : List.lookup f [(("line" : Str), v)] = none := by simp [List.lookup, qw]
    rw [q2]
    trivial
section
variable {X : Cx} {C fI : Addr}
/-- NotAProgram(e) -/
def tMkNap (C : Addr) (ta : TA) : L2.St → Hp → XK → Prop := fun σ H Q => ta σ H fun vs H1 => ∃ v, vs = [v] ∧ ∀ d, H1 d = none → Q (.ref C) (some d) (upd H1 d (.xd [(("line" : Str), v)]))
/-- what is left of it: the state without the exception -/
theorem nap_left {pins : List (Addr × Obj)} {σ : L2.St} {H1 : Hp} {s1 : Shared} {h' : Heap} {tk' : Nat} {e d : Addr} {v : V} {v' : Value} (I1 : Inv X pins σ H1 s1) (rv : RelV v v') (M : PySem.NapX.OwnMade s1.heap h' e C d v') :
    ∃ sI : Shared, Inv X pins σ (upd H1 d (.xd [(("line" : Str), v)])) sI ∧ (∀ b o, sI.heap.get? b = some o → h'.get? b = some o) ∧ sI.heap.get? e = none ∧ (upd H1 d (.xd [(("line" : Str), v)])) e = none ∧ sI.os = s1.os := by
  have hns := M.ns
  obtain ⟨G', g1, g2⟩ := restrict h' fun b => decide (b ≠ e)
  have gk : ∀ b, b ≠ e → G'.get? b = h'.get? b := fun b hb => g1 b (decide_eq_true hb)
  have ge : G'.get? e = none := g2 e (by simp)
  have old : ∀ b o, s1.heap.get? b = some o → G'.get? b = some o := fun b o q => (gk b (Nat.ne_of_lt (Nat.lt_of_lt_of_le (Heap.lt_size q) M.new))).trans (M.keep b o q)
  have ob : ObjOk X.prog X.w (upd H1 d (.xd [(("line" : Str), v)])) G' d (.xd [(("line" : Str), v)]) := ⟨_, hns.at (fun o q => (gk d M.dne).trans q), fun f => relO_line rv f⟩
  refine ⟨{ s1 with heap := G', toks := tk' }, I1.laid (t' := tk') old M.dbig ob, fun b o q => ?_, ge, ?_, rfl⟩
  · by_cases hb : b = e
    · have q' : G'.get? b = some o := q
      rw [hb, ge] at q'
      cases q'
    · exact (gk b hb).symm.trans q
  · rw [upd_ne (Ne.symm M.dne)]
    exact I1.hok.fresh M.new
theorem nap_call {a : Expr} {ta : TA} {p pos : Pos} (T : PySem.NapX.NapTxt X.K X.mg C fI) (hr : X.A.depth + 1 < recursionLimit) (ha : PA X [a] ta) {Q : Value → Shared → Prop} {pins : List (Addr × Obj)} {s : Shared} {σ : L2.St} {H : Hp} {QX : XK} (I : Inv X pins σ H s)
    (h : tMkNap C ta σ H QX)
    (hQ : ∀ (s1 : Shared) (H1 : Hp) (v : V) (v' : Value) (h' : Heap) (tk : Nat) (e d : Addr), Inv X pins σ H1 s1 → RelV v v' → PySem.NapX.OwnMade s1.heap h' e C d v' → (∀ d, H1 d = none → QX (.ref C) (some d) (upd H1 d (.xd [(("line" : Str), v)]))) → Q (.ref e) { s1 with heap := h', toks := tk })
    (hg : Gl X "NotAProgram") (he : starEach (a :: []) X.env = (false, eval a X.env) :: starEach [] X.env) (hpl : (backTo pos (starEach [] X.env)).any (·.1) = false) :
    wpAny (model X.prog X.w) X.A (eval (.Call (.Name "NotAProgram" p) [a] [] pos) X.env) Q X.xe s := by
  refine wpAny_Call_Name_kw (ld_glob I hg T.gC ?_)
  refine PySem.W.callWith_K (h₀ := X.base) I.ok.mod.kin T.kC (thn (ha.run pos pins s σ H _ I h) fun us s1 hh => ?_) he hpl
  obtain ⟨vs, H1, I1, r1, v, ev, q1⟩ := hh
  subst ev
  refine ⟨I1.kIn, ?_⟩
  cases r1 with
  | cons rv rn =>
    rename_i v' us'
    cases rn
    show wpAny _ _ (call (.ref C) [v']) _ _ _
    refine wpAny_call (PySem.NapX.nap_made T I1.kIn I1.nolimit hr fun h' tk' e d M => ?_)
    exact hQ s1 H1 v v' h' tk' e d I1 rv M q1
theorem pmk_nap {a : Expr} {ta : TA} {p pos : Pos} {k : Nat} (T : PySem.NapX.NapTxt X.K X.mg C fI) (hr : Room (k + 1) X.A) (ha : PA X [a] ta) (hg : Gl X "NotAProgram" := by rfl)
    (he : starEach (a :: []) X.env = (false, eval a X.env) :: starEach [] X.env := by rfl) (hpl : (backTo pos (starEach [] X.env)).any (·.1) = false := by rfl) :
    PMk X (.Call (.Name "NotAProgram" p) [a] [] pos) (tMkNap C ta) := by
  intro pins s σ H Q I h
  refine nap_call T (by have := hr.dp; omega) ha I h (fun s1 H1 v v' h' tk e d I1 rv M q => ?_) hg he hpl
  obtain ⟨sI, J, k1, k2, k3, k4⟩ := nap_left (tk' := tk) I1 rv M
  obtain ⟨t1, hoe⟩ := M.obj
  exact ⟨e, _, _, sI, _, .ref C, some d, rfl, J, k1, k2, hoe, ⟨rfl, rfl⟩, rfl, rfl, k3, k4.symm, I1.bare, raises_own T.exC T.tyC, q d (I1.hok.fresh M.dbig)⟩
/-- the same while an exception is handled: for raise .. from None -/
theorem pmk5_nap {a : Expr} {ta : TA} {p pos : Pos} (T : PySem.NapX.NapTxt X.K X.mg C fI) (hr : X.A.depth + 1 < recursionLimit) (ha : PA X [a] ta) (hg : Gl X "NotAProgram" := by rfl)
    (he : starEach (a :: []) X.env = (false, eval a X.env) :: starEach [] X.env := by rfl) (hpl : (backTo pos (starEach [] X.env)).any (·.1) = false := by rfl) :
    L2H.PMk5 X (.Call (.Name "NotAProgram" p) [a] [] pos) (tMkNap C ta) := by
  intro pins s σ H Q I h
  refine nap_call T hr ha I h (fun s1 H1 v v' h' tk e d I1 rv M q => ?_) hg he hpl
  obtain ⟨sI, J, k1, k2, k3, k4⟩ := nap_left (tk' := tk) I1 rv M
  obtain ⟨t1, hoe⟩ := M.obj
  refine ⟨⟨e, _, _, sI, _, .ref C, some d, rfl, J, k1, k2, hoe, ⟨rfl, rfl, fun vs q => by cases q; rfl⟩, rfl, rfl, k3, k4.symm, I1.bare, raises_own T.exC T.tyC, q d (I1.hok.fresh M.dbig)⟩, fun a' oe vs ea hg hd => ?_⟩
  cases ea
  have hg : h'.get? e = some oe := hg
  rw [hoe] at hg
  cases hg
  cases hd
  show (4 : Nat) < 6
  decide
/-- a field of an error that stands in the heap, read -/
theorem exc_field {X : Cx} {pins : List (Addr × Obj)} {σ : L2.St} {H : Hp} {s : Shared} {Q : VK} {E : Value → Shared → Prop} {f : Str} {a C dd : Addr} {oe : Obj} {fs : List (Str × V)} {v : V} {b : Bool} (I : Inv X pins σ H s) (there : s.heap.get? a = some oe) (hz : Zc (.ref C) (some dd) oe) (hf : ∃ vs, oe.data = .fields vs)
    (ea : H dd = some (.xd fs)) (named : fs.lookup f = some v) (ga : PySem.W.findIn X.K (.ref C) "__getattribute__" = some (some (.builtin "BaseException.__getattribute__"))) (gg : PySem.W.findIn X.K (.ref C) "__getattr__" = some none) (sub : PySem.W.subIn X.K (.ref C) (.type "BaseException") = some true)
    (hd : PySem.W.hasDictIn X.K C = true) (no : PySem.W.findIn X.K (.ref C) f = some none) (q : Q v H) : wpAny (model X.prog X.w) X.A (getAttr (.ref a) f b) (EP X pins σ Q) E s := by
  rcases hf with ⟨vs, fields⟩
  rcases hz with ⟨kind, dict⟩
  obtain ⟨names, ns, rel⟩ : ObjOk X.prog X.w H s.heap dd (.xd fs) := I.hok dd _ ea
  rcases lookIn_ns ns with ⟨od, at_, look⟩
  rcases RelO.some_of (v := v) (o := names f) (named ▸ rel f) with ⟨u, hu, ru⟩
  have inst : PySem.W.InstAt s.heap a oe C (some od) := ⟨there, kind, by simp only [PySem.W.notCls, fields], by rw [dict]; exact at_⟩
  exact HandSPX.exc_get I.kIn inst ga gg sub (PySem.W.findObj_own hd no rfl ((look f).trans (congrArg some hu))) (handed_of ru) ⟨v, H, I.tok _, ru, q⟩
/-- refusal.line, refusal the exception that the suite holds -/
def tLineOf (C : Addr) (a : Addr) (cls : Value) (d : Option Addr) (te : TE) : TE := fun σ H Q => te σ H fun x H1 => x = .ref a ∧ cls = .ref C ∧ ∃ (dd : Addr) (v : V), d = some dd ∧ H1 dd = some (.xd [(("line" : Str), v)]) ∧ Q v H1
theorem pe_lineOf {a : Addr} {oe : Obj} {cls : Value} {d : Option Addr} {pn : List (Addr × Obj)} {e : Expr} {te : TE} {pos : Pos} (T : PySem.NapX.NapTxt X.K X.mg C fI) (hz : Zc cls d oe) (hf : ∃ vs, oe.data = .fields vs) (he : PE (X.suite a ((a, oe) :: pn)) e te)
    (hb : attributeBase e "line" X.env (eval e X.env) = eval e X.env := by rfl) :
    PE (X.suite a ((a, oe) :: pn)) (.Attribute e "line" pos) (tLineOf C a cls d te) := by
  constructor
  intro pins s σ H Q I h
  refine attr_of hb (wpAny_mono (he.run pins s σ H _ I h) ?_ fun _ _ z => z)
  rintro _ s1 ⟨_, H1, I1, rx, rfl, rfl, dd, v, rfl, ea, q⟩
  cases rx
  obtain ⟨there, _⟩ := I1.pin (a, oe) (List.mem_append_left _ List.mem_cons_self)
  exact exc_field I1 there hz hf ea (by simp [List.lookup]) T.ga T.gg T.exC T.hdC T.noN q
end
end Sl
set_option Elab.async false
set_option linter.all false
set_option maxRecDepth 100000
set_option maxHeartbeats 4000000
namespace Sl
open PySem PySem.Spec PyProof.Rows L2
/-! ### X() of an own error class without __init__ -/
section
variable {X : Cx} {C : Addr} {bmB : List Value} {B newId initId : String}
theorem pmk_bare {x : Str} {p pos : Pos} (F : ExcBaseFacts B newId initId bmB) (q : PySem.W.excIn X.K C bmB newId = true) (gC : X.mg x = some (.ref C)) (kC : PySem.W.keepIn X.K (.ref C) = true) (r : Raises X (.ref C)) (hg : Gl X x)
    (hdb : (x == ("__debug__" : Str)) = false := by decide) : L2N.PMk X (.Call (.Name x p) [] [] pos) (fun _ H Q => Q (.ref C) none H) := by
  intro pins s σ H Q I h
  refine wpAny_Call_Name_kw (ld_glob I hg gC ?_ hdb)
  refine PySem.W.callWith_K0 I.kIn kC ?_
  obtain ⟨bm, N, nm, qn, bs, hdct, sn, sub, ab, col, dd, k0, k1, k2, k3, k5, mN, hC, hN, hni, T⟩ := exc_obj I.kIn q
  refine wpAny_call_exc_subT F T hC hN hni (fun h' e hm => ?_) (by show 0 ≤ sizeLine; exact Nat.zero_le _)
  exact L2N.mk_of I hm r h (I.hok.gone hm.new)
end
/-! ### a dict of the module's top with texts for keys, asked by any text or number -/
def KTab {β : Type} (K : PySem.W.Frag) (w : World) (d : Addr) (R : β → Value → Prop) (ps : List (Str × β)) : Prop :=
  ∃ es n, K.lookup d = some ⟨.type "dict", none, .dict es n, #[]⟩ ∧ (d == sysModules) = false ∧
    Paired (fun (e : DictEntry) (p : Str × β) => (∃ t, e.key = .str p.1 t) ∧ e.hash = PyData.keyHash w.params p.1 ∧ R p.2 e.val) es.toList ps
theorem lits_of {β : Type} {w : World} {R : β → Value → Prop} : ∀ {l : List DictEntry} {ps : List (Str × β)}, Paired (fun (e : DictEntry) (p : Str × β) => (∃ t, e.key = .str p.1 t) ∧ e.hash = PyData.keyHash w.params p.1 ∧ R p.2 e.val) l ps → PySem.W.KeysLit w.params l
  | _, _, .nil => trivial
  | _, _, .cons (b := p) ⟨⟨t, k⟩, h, _⟩ r => ⟨⟨p.1, t, k, h⟩, lits_of r⟩
theorem find_of {β : Type} {w : World} {R : β → Value → Prop} (z : Str) : ∀ {l : List DictEntry} {ps : List (Str × β)}, Paired (fun (e : DictEntry) (p : Str × β) => (∃ t, e.key = .str p.1 t) ∧ e.hash = PyData.keyHash w.params p.1 ∧ R p.2 e.val) l ps →
    match ps.lookup z with
      | some b => ∃ u, (l.find? fun e => Value.isStrOf z e.key).map (·.val) = some u ∧ R b u
      | none => (l.find? fun e => Value.isStrOf z e.key).map (·.val) = none
  | _, _, .nil => rfl
  | _, _, .cons (a := e) (b := p) ⟨⟨t, k⟩, h, q⟩ r => by
    have ih := find_of z r
    obtain ⟨n, b⟩ := p
    have k : e.key = .str n t := k
    rw [List.lookup_cons, List.find?_cons, k]
    have e1 : Value.isStrOf z (.str n t) = (z == n) := by
      by_cases c : z = n
      · subst c
        simp [Value.isStrOf]
      · have c' : ¬ n = z := fun q => c q.symm
        simp only [Value.isStrOf]
        rw [beq_eq_false_iff_ne.mpr c', beq_eq_false_iff_ne.mpr c]
    rw [e1]
    cases c : (z == n) with
    | true => exact ⟨_, rfl, q⟩
    | false => exact ih
theorem find_int {β : Type} {w : World} {R : β → Value → Prop} (n : Int) : ∀ {l : List DictEntry} {ps : List (Str × β)}, Paired (fun (e : DictEntry) (p : Str × β) => (∃ t, e.key = .str p.1 t) ∧ e.hash = PyData.keyHash w.params p.1 ∧ R p.2 e.val) l ps →
    (l.find? fun e => keyIs (Sum.inl n) e.key).map (·.val) = none
  | _, _, .nil => rfl
  | _, _, .cons (a := e) ⟨⟨t, k⟩, h, q⟩ r => by
    rw [List.find?_cons, k]
    exact find_int n r
theorem by_list {κ : Type} (P : κ → Value → Bool) (es : Array DictEntry) (k : κ) : findBy P es k = (es.toList.find? fun e => P k e.key).map (·.val) := by
  obtain ⟨l⟩ := es
  simp only [findBy, List.find?_toArray]
section
variable {X : Cx} {β : Type} {d : Addr} {R : β → Value → Prop} {ps : List (Str × β)}
theorem tab_find (T : KTab X.K X.w d R ps) (z : Str) : ∃ es n, X.K.lookup d = some ⟨.type "dict", none, .dict es n, #[]⟩ ∧ (d == sysModules) = false ∧ PySem.W.KeysLit X.w.params es.toList ∧
    match ps.lookup z with
      | some b => ∃ u, findBy Value.isStrOf es z = some u ∧ R b u
      | none => findBy Value.isStrOf es z = none := by
  obtain ⟨es, n, hl, lo, pr⟩ := T
  refine ⟨es, n, hl, lo, lits_of pr, ?_⟩
  have q := find_of z pr
  rw [by_list]
  exact q
theorem tab_some (T : KTab X.K X.w d R ps) (z : Str) : ∃ es n, X.K.lookup d = some ⟨.type "dict", none, .dict es n, #[]⟩ ∧ (d == sysModules) = false ∧ PySem.W.KeysLit X.w.params es.toList ∧ (findBy Value.isStrOf es z).isSome = (ps.lookup z).isSome := by
  obtain ⟨es, n, a, b, c, q⟩ := tab_find T z
  refine ⟨es, n, a, b, c, ?_⟩
  cases e : ps.lookup z with
  | none =>
    rw [e] at q
    have q : findBy Value.isStrOf es z = none := q
    rw [q]
    rfl
  | some v =>
    rw [e] at q
    obtain ⟨u, q, _⟩ := q
    rw [q]
    rfl
def rInT (d : Addr) (neg : Bool) (ps : List (Str × β)) : R2 := fun x y H Q => y = .ref d ∧ ((∃ z, x = .str z ∧ Q (.bl ((ps.lookup z).isSome != neg)) H) ∨ (∃ n, x = .int n ∧ Q (.bl neg) H))
theorem map_int (T : KTab X.K X.w d R ps) {pins : List (Addr × Obj)} {σ : L2.St} {H : Hp} {s : Shared} (I : Inv X pins σ H s) (n : Int) : (d == sysModules) = false ∧ ∃ es, s.heap.MapOf (mixKind X.prog X.w) d (fun k => findBy keyIs es k) ∧ findBy keyIs es (Sum.inl n) = none := by
  obtain ⟨es, m, hl, lo, pr⟩ := T
  refine ⟨lo, es, ⟨_, es, m, I.kIn _ _ hl, ⟨rfl, rfl, rfl⟩, rfl, fun e he => ?_, fun _ => rfl⟩, ?_⟩
  · obtain ⟨x, t, e1, e2⟩ := (lits_of pr).all e (Array.mem_toList_iff.mpr he)
    exact ⟨Sum.inr x, by rw [e1]; exact keyIs_str x t, e2⟩
  · rw [by_list]
    exact find_int n pr
theorem op_in_tab (T : KTab X.K X.w d R ps) : OpR X (compareOp .In) (rInT d false ps) := by
  intro pins s σ H x y v u Q I rx ry h
  obtain ⟨rfl, h⟩ := h
  cases ry
  rcases h with ⟨z, rfl, q⟩ | ⟨n, rfl, q⟩
  · obtain ⟨t, rfl⟩ := rx
    obtain ⟨es, n, hl, lo, kl, e⟩ := tab_some T z
    refine wpAny_in_of (PySem.strKind_is X.prog X.w z t) lo (PySem.W.mapOf_K (prog := X.prog) I.kIn hl kl) ?_
    rw [e]
    rw [Bool.bne_false] at q
    exact ⟨.bl (ps.lookup z).isSome, H, I.tok _, rfl, q⟩
  · obtain ⟨t, rfl⟩ := rx
    obtain ⟨lo, es, hm, e⟩ := map_int T I n
    refine wpAny_in_of (knd := mixKind X.prog X.w) (k := Sum.inl n) (keyIs_int n t) lo hm ?_
    rw [e]
    exact ⟨.bl false, H, I.tok _, rfl, q⟩
theorem op_notIn_tab (T : KTab X.K X.w d R ps) : OpR X (compareOp .NotIn) (rInT d true ps) := by
  intro pins s σ H x y v u Q I rx ry h
  obtain ⟨rfl, h⟩ := h
  cases ry
  rcases h with ⟨z, rfl, q⟩ | ⟨n, rfl, q⟩
  · obtain ⟨t, rfl⟩ := rx
    obtain ⟨es, n, hl, lo, kl, e⟩ := tab_some T z
    refine wpAny_notIn_of (PySem.strKind_is X.prog X.w z t) lo (PySem.W.mapOf_K (prog := X.prog) I.kIn hl kl) ?_
    rw [e]
    rw [Bool.bne_true] at q
    exact ⟨.bl (!(ps.lookup z).isSome), H, I.tok _, rfl, q⟩
  · obtain ⟨t, rfl⟩ := rx
    obtain ⟨lo, es, hm, e⟩ := map_int T I n
    refine wpAny_notIn_of (knd := mixKind X.prog X.w) (k := Sum.inl n) (keyIs_int n t) lo hm ?_
    rw [e]
    exact ⟨.bl true, H, I.tok _, rfl, q⟩
/-- d[z], a key that is there -/
def rIxT (d : Addr) (R : β → Value → Prop) (ps : List (Str × β)) : R2 := fun x y H Q => ∃ z b, x = .ref d ∧ y = .str z ∧ ps.lookup z = some b ∧ ∀ v u, R b u → RelV v u → Q v H
theorem ix_tab (T : KTab X.K X.w d R ps) (hR : ∀ b u, R b u → ∃ v, RelV v u) : IxR X (rIxT d R ps) := by
  intro value slice pins s σ H x y v u Q I rx ry h hs
  obtain ⟨z, b, rfl, rfl, e, q⟩ := h
  obtain rfl : v = Value.ref d := rx
  obtain ⟨t, rfl⟩ := ry
  obtain ⟨es, n, hl, lo, kl, m⟩ := tab_find T z
  rw [e] at m
  obtain ⟨u, m, r⟩ := m
  obtain ⟨v0, rv⟩ := hR b u r
  have hm := PySem.W.mapOf_K (prog := X.prog) (w := X.w) I.kIn hl kl
  exact tail_any hm.typeIs slot_dict_getitem.lookup (wpAny_getItem_of (strKind_is X.prog X.w z t) hm m ⟨v0, H, I.tok _, rv, q v0 u r rv⟩) hs
end
/-- a tuple of the module's top -/
def KTup (K : PySem.W.Frag) (xs : List V) (u : Value) : Prop := ∃ a, u = .ref a ∧ ∃ (o : Obj) (its : Array Value) (n : Nat), K.lookup a = some o ∧ o.cls = .type "tuple" ∧ o.data = .seq its n ∧ its.size ≤ sizeLine ∧ Vals xs its.toList
theorem KTup.sq {K : PySem.W.Frag} {xs : List V} {u : Value} (h : KTup K xs u) (H : Hp) : ∃ a, u = .ref a ∧ SqT K H a xs := by
  obtain ⟨a, e, q⟩ := h
  exact ⟨a, e, .inr q⟩
end Sl
set_option Elab.async false
set_option linter.all false
set_option maxRecDepth 100000
set_option maxHeartbeats 4000000
namespace Sl
open PySem PySem.Spec PyProof.Rows L2
/-! ### zip(a list, a tuple) -/
def ItzM (K : PySem.W.Frag) (a b : Addr) : It :=
  ⟨fun i H => ∃ (xs ys : List V) (x y : V), SqL K H a xs ∧ SqT K H b ys ∧ xs[i]? = some x ∧ ys[i]? = some y,
    fun i H v H' => ∃ T x y, v = .ref T ∧ H T = none ∧ H' = upd H T (.tup [x, y]) ∧ (∀ xs, SqL K H a xs → xs[i]? = some x) ∧ ∀ ys, SqT K H b ys → ys[i]? = some y,
    fun i H => ∃ xs ys : List V, SqL K H a xs ∧ SqT K H b ys ∧ i = xs.length ∧ i = ys.length⟩
/-- such a zip behind i turns -/
structure ZipAt (z TI TO i1 i2 a b : Addr) (i : Nat) (h : Heap) : Prop where
  zip : IsZip h z TI TO .none
  ins : IsTupOf2 h TI (.ref i1) (.ref i2)
  out : ∃ x y, IsTupOf2 h TO x y
  one : h.IsListIter i1 a i
  two : h.IsTupleIter i2 b i
theorem ZipAt.each {z TI TO i1 i2 a b : Addr} {i : Nat} {h : Heap} (Z : ZipAt z TI TO i1 i2 a b i h) : ∀ c ∈ [z, TI, TO, i1, i2], ∃ o, h.get? c = some o ∧ ∀ v, o.data ≠ .cell v := by
  obtain ⟨_, _, out⟩ := Z.out
  obtain ⟨o1, e1, _, d1⟩ := Z.one
  obtain ⟨o2, e2, _, d2⟩ := Z.two
  simp only [List.forall_mem_cons]
  exact ⟨⟨_, Z.zip, nofun⟩, ⟨_, Z.ins, nofun⟩, ⟨_, out, nofun⟩, ⟨o1, e1, fun v q => nomatch d1.symm.trans q⟩, ⟨o2, e2, fun v q => nomatch d2.symm.trans q⟩, nofun⟩
/-- an iterator with the records fp has made a new pair -/
theorem pair_made {X : Cx} {pins : List (Addr × Obj)} {s : Shared} {σ : L2.St} {H : Hp} {fp : List Addr} {h' : Heap} {tk : Nat} {x y : V} {u v : Value} (I : Inv X pins σ H s) (hf : ∀ c ∈ fp, FpOk X pins H c) (each : ∀ c ∈ fp, ∃ o, s.heap.get? c = some o)
    (keeps : ∀ c o, c ∉ fp → s.heap.get? c = some o → h'.get? c = some o) (there : h'.get? s.heap.objs.size = some { cls := .type "tuple", data := .seq #[u, v] }) (ru : RelV x u) (rv : RelV y v) :
    Inv X pins σ (upd H s.heap.objs.size (.tup [x, y])) { s with heap := h', toks := tk } ∧ H s.heap.objs.size = none ∧ ∀ c ∈ fp, upd H s.heap.objs.size (.tup [x, y]) c = none := by
  have pair : ObjOk X.prog X.w (upd H s.heap.objs.size (.tup [x, y])) h' s.heap.objs.size (.tup [x, y]) := ⟨show 2 ≤ sizeLine by decide, [u, v], .cons ru (.cons rv .nil), ⟨_, there, rfl, _, rfl⟩⟩
  refine ⟨I.turnedNew (t' := tk) (ch := fp) keeps hf (Nat.le_refl _) pair, I.hok.fresh (Nat.le_refl _), fun c m => ?_⟩
  obtain ⟨o, e⟩ := each c m
  exact (upd_ne (Nat.ne_of_lt (Heap.lt_size e))).trans (hf c m).1
theorem drawn_is {its : List Value} {i : Nat} {u v : Value} (hu : its[i]? = some u) (q : its.toArray[i]? = some v) : v = u := by
  rw [List.getElem?_toArray, hu] at q
  exact (Option.some.inj q).symm
theorem drawn_lt {its : List Value} {i : Nat} {u : Value} (hu : its[i]? = some u) : i < its.toArray.size := by
  simpa using (List.getElem?_eq_some_iff.mp hu).1
theorem turn_zipM {P : Program} {w : World} {K : PySem.W.Frag} {elts : List Expr} {kk : Nat} {tpos : Pos} {a b z TI TO i1 i2 : Addr} (S : ZipSep2 z TI TO i1 i2 [i1, a] [i2, b]) (ha : a ≠ i1) (hb : b ≠ i2) :
    Turn P w K (.Tuple elts kk tpos) (ItzM K a b) [z, TI, TO, i1, i2] z (ZipAt z TI TO i1 i2 a b) where
  mem := List.mem_cons_self
  obj := fun i h Z => Z.each
  keep := fun i h h' Z k => by
    simp only [List.forall_mem_cons] at k
    exact { zip := k.1 _ Z.zip, ins := k.2.1 _ Z.ins, out := Z.out.imp fun _ => Exists.imp fun _ => k.2.2.1 _, one := Z.one.at k.2.2.2.1, two := Z.two.at k.2.2.2.2.1 }
  item := by
    rintro X rfl rfl rfl calm i pins s σ H E I hf Z ⟨xs, ys, x, y, sx, sy, atx, aty⟩
    rcases I.list sx with ⟨its, rel, lst, _⟩
    rcases I.tuple sy with ⟨its2, rel2, tup, _⟩
    rcases rel.get atx with ⟨u, hu, ru⟩
    rcases rel2.get aty with ⟨u2, hu2, ru2⟩
    obtain ⟨_, _, out⟩ := Z.out
    have D1 := Draws.list (prog := X.prog) (w := X.w) (A := X.A.in1) (I.ok.hd calm) i1 a ha its.toArray
    have D2 := Draws.tuple (prog := X.prog) (w := X.w) (A := X.A.in1) (I.ok.hd calm) i2 b hb its2.toArray
    refine wpAny_pyNext_zipD2_item S D1 D2 Z.zip Z.ins out ⟨Z.one, lst.isList⟩ ⟨Z.two, tup⟩ (drawn_lt hu) (drawn_lt hu2) ?_
    intro v1 v2 h' tk q1 q2 zip' out' st1 st2 new _ others
    obtain rfl := drawn_is hu q1
    obtain rfl := drawn_is hu2 q2
    refine ⟨_, rfl, wpAny_letOwnedTupleGo_zip (s := { s with heap := h', toks := tk }) zip' ?_⟩
    intro h'' zip'' same
    have keeps : ∀ c o, c ∉ [z, TI, TO, i1, i2] → s.heap.get? c = some o → h''.get? c = some o := fun c o m e => by
      simp only [List.mem_cons, List.not_mem_nil, or_false, not_or] at m
      exact (same.2 c m.1).trans (others c o m.1 m.2.2.1 m.2.2.2.1 m.2.2.2.2 e)
    obtain ⟨J, free, frees⟩ := pair_made (tk := tk) I hf (fun c m => (Z.each c m).imp fun _ q => q.1) keeps ((same.2 _ (Nat.ne_of_gt (Heap.lt_size Z.zip))).trans new) ru ru2
    have yld : (ItzM X.K a b).yld i H (.ref s.heap.objs.size) (upd H s.heap.objs.size (.tup [x, y])) := ⟨_, x, y, rfl, free, rfl, fun l hl => I.list_inj hl sx ▸ atx, fun l hl => I.tuple_inj hl sy ▸ aty⟩
    exact ⟨.ref s.heap.objs.size, _, J, rfl, yld,
      { zip := zip''
        ins := (same.2 _ S.TIz).trans (others _ _ S.TIz S.TITO S.TIi1 S.TIi2 Z.ins)
        out := ⟨_, _, (same.2 _ S.TOz).trans out'⟩
        one := st1.1.at fun _ q => (same.2 _ S.zi1.symm).trans q
        two := st2.1.at fun _ q => (same.2 _ S.zi2.symm).trans q }, frees⟩
  done := by
    rintro X rfl rfl rfl calm i pins s σ H E I hf Z ⟨xs, ys, sx, sy, lx, ly⟩
    rcases I.list sx with ⟨its, rel, lst, _⟩
    rcases I.tuple sy with ⟨its2, rel2, tup, _⟩
    obtain ⟨_, _, out⟩ := Z.out
    have D1 := Draws.list (prog := X.prog) (w := X.w) (A := X.A.in1) (I.ok.hd calm) i1 a ha its.toArray
    have D2 := Draws.tuple (prog := X.prog) (w := X.w) (A := X.A.in1) (I.ok.hd calm) i2 b hb its2.toArray
    have n1 : i = its.toArray.size := lx.trans (by simp [rel.length])
    have n2 : i = its2.toArray.size := ly.trans (by simp [rel2.length])
    refine wpAny_pyNext_zipD2_end S D1 D2 Z.zip Z.ins out ⟨Z.one, lst.isList⟩ ⟨Z.two, tup⟩ (Nat.le_of_eq n1) (Nat.le_of_eq n2) (.inl n1) fun h' tk others => ⟨rfl, I.turnedL (t' := tk) (ch := [z, TI, TO, i1, i2]) (fun c o m e => ?_) hf⟩
    simp only [List.mem_cons, List.not_mem_nil, or_false, not_or] at m
    exact others c o m.1 m.2.2.1 m.2.2.2.1 m.2.2.2.2 e
  self := fun _ _ _ _ _ Z h => wpAny_pyIter_zip Z.zip h
def iZipM (K : PySem.W.Frag) (ta : TA) : TI := fun σ H R => ta σ H fun vs H1 => ∃ a b xs ys, vs = [.ref a, .ref b] ∧ SqL K H1 a xs ∧ SqT K H1 b ys ∧ R (ItzM K a b) H1
theorem fresh_all {X : Cx} {pins : List (Addr × Obj)} {s : Shared} {σ : L2.St} {H : Hp} (I : Inv X pins σ H s) {fp : List Addr} (big : ∀ c ∈ fp, s.heap.objs.size ≤ c) : ∀ c ∈ fp, FpOk X pins H c := fun c m => I.fpOk (big c m) (I.hok.fresh (big c m))
theorem pi_zipM {X : Cx} {e e2 : Expr} {ta : TA} {p pos tpos : Pos} {elts : List Expr} {kk : Nat} (hg : Gl X "zip") (hm : X.mg "zip" = none) (ha : PA X [e, e2] ta) (hs : starEach [e, e2] X.env = (false, eval e X.env) :: starEach [e2] X.env := by rfl)
    (hpl : (backTo pos (starEach [e2] X.env)).any (·.1) = false := by rfl) : PI X (.Tuple elts kk tpos) (.Call (.Name "zip" p) [e, e2] [] pos) (iZipM X.K ta) := by
  constructor
  intro pins s σ H R I h
  refine Call_ (ld_blt I hg hm PyProof.Rows.boot_zip (PyProof.Rows.callWith_type1 (wpAny_mono (ha.run pos pins s σ H _ I h) ?_ fun _ _ z => z) hs hpl))
  rintro _ s1 ⟨_, H1, I1, rel, a, b, xs, ys, rfl, sx, sy, q⟩
  rcases rel with _ | ⟨⟨⟩, _ | ⟨⟨⟩, ⟨⟩⟩⟩
  rcases I1.list sx with ⟨its, _, lst, _⟩
  rcases I1.tuple sy with ⟨its2, _, tup, _⟩
  have lta : a < s1.heap.objs.size := lst.lt
  have ltb : b < s1.heap.objs.size := tup.elim fun _ z => Heap.lt_size z.1
  refine zip_begins2 (begins_list a its.toArray) (begins_tuple b its2.toArray) lst.isList tup ?_
  intro h' zip ins out one two _ keeps
  have apart := zip_sep2 (fp1 := [a]) (fp2 := [b]) (fun c m => List.mem_singleton.mp m ▸ lta) (fun c m => List.mem_singleton.mp m ▸ ltb)
  have begun : ZipAt (s1.heap.objs.size + 4) (s1.heap.objs.size + 2) (s1.heap.objs.size + 3) s1.heap.objs.size (s1.heap.objs.size + 1) a b 0 h' := ⟨zip, ins, ⟨_, _, out⟩, ⟨_, one, rfl, rfl⟩, ⟨_, two, rfl, rfl⟩⟩
  exact wpAny_pyIter_zip zip ⟨_, _, _, _, H1, rfl, I1.kept (t' := s1.toks) keeps, turn_zipM apart (Nat.ne_of_lt lta) (Nat.ne_of_lt (Nat.lt_succ_of_lt ltb)), begun, fresh_all I1 (by simp), q⟩
/-! ### enumerate(a list, start=k) -/
def IteK (K : PySem.W.Frag) (a : Addr) (k : Int) : It :=
  ⟨fun i H => ∃ (xs : List V) (x : V), SqL K H a xs ∧ xs[i]? = some x,
    fun i H v H' => ∃ T x, v = .ref T ∧ H T = none ∧ H' = upd H T (.tup [.int (k + i), x]) ∧ ∀ xs, SqL K H a xs → xs[i]? = some x,
    fun i H => ∃ xs : List V, SqL K H a xs ∧ i = xs.length⟩
theorem turn_enumK {P : Program} {w : World} {K : PySem.W.Frag} {elts : List Expr} {kk : Nat} {tpos : Pos} (a e it : Addr) (k : Int) (hae : a ≠ e) (hai : a ≠ it) (hei : e ≠ it) :
    Turn P w K (.Tuple elts kk tpos) (IteK K a k) [e, it] e (fun i h => (∃ old, IsEnum h e it (k + (i : Nat)) old) ∧ h.IsListIter it a i) where
  mem := List.mem_cons_self
  obj := by
    rintro i h ⟨⟨old, he⟩, o, ho, _, fields⟩
    simp only [List.forall_mem_cons]
    exact ⟨⟨_, he, nofun⟩, ⟨o, ho, fun v q => nomatch fields.symm.trans q⟩, nofun⟩
  keep := by
    rintro i h h' ⟨⟨old, he⟩, hi⟩ k
    simp only [List.forall_mem_cons] at k
    exact ⟨⟨old, k.1 _ he⟩, hi.at k.2.1⟩
  item := by
    rintro X rfl rfl rfl calm i pins s σ H E I hf ⟨⟨old, he⟩, hit⟩ ⟨xs, x, seq, atx⟩
    rcases I.list seq with ⟨its, rel, lst, _⟩
    rcases rel.get atx with ⟨u, hu, ru⟩
    have D := Draws.list (prog := X.prog) (w := X.w) (A := X.A.in1) (I.ok.hd calm) it a hai its.toArray
    refine wpAny_pyNext_enum_itemC D he ⟨hit, lst.isList⟩ (drawn_lt hu) hei (by simp [hei, hae.symm]) ?_
    intro v1 h' tk q1 counted st1 new _ others
    obtain rfl := drawn_is hu q1
    refine ⟨_, rfl, wpAny_letOwnedTupleGo_enum (s := { s with heap := h', toks := tk + 1 }) counted ?_⟩
    intro h'' counted' same
    have keeps : ∀ c o, c ∉ [e, it] → s.heap.get? c = some o → h''.get? c = some o := fun c o m q => by
      simp only [List.mem_cons, List.not_mem_nil, or_false, not_or] at m
      exact (same.2 c m.1).trans (others c o m.1 m.2 q)
    have each : ∀ c ∈ [e, it], ∃ o, s.heap.get? c = some o := by
      simp only [List.forall_mem_cons]
      exact ⟨⟨_, he⟩, hit.imp fun _ q => q.1, nofun⟩
    obtain ⟨J, free, frees⟩ := pair_made (tk := tk + 1) (x := .int (k + (i : Nat))) I hf each keeps ((same.2 _ (Nat.ne_of_gt (Heap.lt_size he))).trans new) ⟨_, rfl⟩ ru
    have next : k + ((i + 1 : Nat) : Int) = k + (i : Nat) + 1 := by omega
    exact ⟨.ref s.heap.objs.size, _, J, rfl, ⟨_, x, rfl, free, rfl, fun ys hy => I.list_inj hy seq ▸ atx⟩, ⟨⟨_, next ▸ counted'⟩, st1.1.at fun _ q => (same.2 it hei.symm).trans q⟩, frees⟩
  done := by
    rintro X rfl rfl rfl calm i pins s σ H E I hf ⟨⟨old, he⟩, hit⟩ ⟨xs, seq, len⟩
    rcases I.list seq with ⟨its, rel, lst, _⟩
    have D := Draws.list (prog := X.prog) (w := X.w) (A := X.A.in1) (I.ok.hd calm) it a hai its.toArray
    obtain rfl : i = its.toArray.size := len.trans (by simp [rel.length])
    have fi := hf it (by simp)
    exact wpAny_pyNext_enum_endD D he ⟨hit, lst.isList⟩ fun h' ext => ⟨rfl, I.turned (t' := s.toks) ext fi.1 fi.2.1 fi.2.2.2.1 fi.2.2.2.2.1 fi.2.2.2.2.2⟩
  self := fun _ _ _ _ _ st h => wpAny_pyIter_enum st.1.choose_spec h
def iEnumK (K : PySem.W.Frag) (k : Int) (ta : TA) : TI := fun σ H R => ta σ H fun vs H1 => ∃ a xs, vs = [.ref a] ∧ SqL K H1 a xs ∧ R (IteK K a k) H1
theorem callWith_typeKw {M : Model} {A : Around} {E : Value → Shared → Prop} {s : Shared} {pos : Pos} {T : String} {args : List (Bool × Sem Value)} {keywords : List (Option Str × Sem Value)} {Q : Value → Shared → Prop}
    (hplain : args.any (·.1) = false) (hkw : keywords.any (·.1.isNone) = false)
    (h : wpAny M A (evalArgs (.type T) true args keywords) (fun a s₁ => wpAny M A (call (.type T) a.pos a.kw) Q E s₁) E s) : wpAny M A (callWith pos (.type T) [] args keywords) Q E s := by
  rw [callWith]
  refine wpAny_bind (wpAny_holding (wpAny_mono h ?_ fun _ _ z => z))
  intro a s₁ run
  refine wpAny_bind (wpAny_standAt ?_)
  simp only [hkw, hplain, Bool.false_or]
  exact wpAny_bind (wpAny_pure (wpAny_bind (wpAny_mono run (fun r s₂ q => wpAny_bind (wpAny_holding (wpAny_point (wpAny_pure q)))) fun _ _ z => z)))
theorem pi_enumK {X : Cx} {e : Expr} {ta : TA} {p pos tpos kp cp : Pos} {elts : List Expr} {kk j : Nat} {k : Int} (hk0 : -(2 ^ 63) ≤ k) (hk1 : k < 2 ^ 63) (hg : Gl X "enumerate") (hm : X.mg "enumerate" = none) (ha : PA X [e] ta)
    (hs : starEach [e] X.env = [(false, eval e X.env)] := by rfl) :
    PI X (.Tuple elts kk tpos) (.Call (.Name "enumerate" p) [e] [⟨some "start", .Constant (.int k) j cp, kp⟩] pos) (iEnumK X.K k ta) := by
  refine ⟨fun pins s σ H R I h => ?_⟩
  refine wpAny_Call_Name_kw (ld_blt I hg hm boot_enumerate ?_)
  refine callWith_typeKw (by rw [hs]; rfl) rfl ?_
  have pk : PK X [⟨some "start", .Constant (.int k) j cp, kp⟩] (tCons (tC (.int k)) tNil) := pk_cons pe_int pk_nil
  rw [show backTo pos (starEach [e] X.env) = (false, eval e X.env) :: backTo pos (starEach [] X.env) from by rw [hs]; rfl]
  refine evalArgs_kwB rfl ?_
  rw [show ((false, eval e X.env) :: backTo pos (starEach [] X.env)) = backTo pos (starEach [e] X.env) from by rw [hs]; rfl]
  refine thn (ha.run pos pins s σ H _ I h) fun us s1 ⟨vs, H1, I1, r1, q1⟩ => ?_
  obtain ⟨a, xs, ex, hq, q⟩ := q1
  subst ex
  refine thn (pk.run pos pins s1 σ H1 (fun vs H2 => vs = [V.int k] ∧ H2 = H1) I1 ⟨rfl, rfl⟩) fun ws s2 ⟨zs, H2, I2, r2, ez, eH⟩ => ?_
  subst ez eH
  cases r1 with
  | cons r rr =>
    cases rr
    cases r
    cases r2 with
    | cons r' rr' =>
      cases rr'
      obtain ⟨t, rfl⟩ := r'
      obtain ⟨its, rv, p', hz⟩ := I2.list hq
      have lta : a < s2.heap.objs.size := p'.lt
      show wpAny _ _ (call (.type "enumerate") [.ref a] [(Str.ofString "start", .int k t)]) _ _ _
      refine enum_begins_start (begins_list a its.toArray) p'.isList hk0 hk1 fun h' he hit hsz hk => wpAny_pyIter_enum he ?_
      have I3 : Inv X pins σ H2 { s2 with heap := h' } := I2.kept (t' := s2.toks) hk
      refine ⟨s2.heap.objs.size + 1, [s2.heap.objs.size + 1, s2.heap.objs.size], _, _, H2, rfl, I3, turn_enumK a (s2.heap.objs.size + 1) s2.heap.objs.size k (Nat.ne_of_lt (Nat.lt_succ_of_lt lta)) (Nat.ne_of_lt lta) (Nat.succ_ne_self _), ⟨⟨.none, ?_⟩, ⟨_, hit, rfl, rfl⟩⟩, fun b hb => ?_, q⟩
      · rw [show k + ((0 : Nat) : Int) = k from by omega]
        exact he
      · have hle : s2.heap.objs.size ≤ b := by
          have e' : b = s2.heap.objs.size + 1 ∨ b = s2.heap.objs.size := by simpa using hb
          rcases e' with z | z <;> (rw [z]; first | exact Nat.le_refl _ | exact Nat.le_add_right _ _)
        exact I2.fpOk hle (I2.hok.fresh hle)
end Sl
set_option linter.all false
namespace SlM
open Sf47
/-! ### enough steps -/
theorem dropWhile_len (p : UInt8 → Bool) : ∀ l : Bytes, (l.dropWhile p).length ≤ l.length
  | [] => Nat.le_refl _
  | c :: r => by
    rw [List.dropWhile_cons]
    split
    · exact Nat.le_trans (dropWhile_len p r) (Nat.le_succ _)
    · exact Nat.le_refl _
/-- the sign that stands ahead, and what is behind it -/
def wTok (w x : Bytes) : Option (Sign × Bytes) := if 15 < w.length then none else some (.word w, x)
def nTok (d : Bytes) (z : Int) (x : Bytes) : Option (Sign × Bytes) := if d ≠ [] ∧ fits z = true then some (.num z, x) else none
def tok : Bytes → Option (Sign × Bytes)
  | [] => none
  | c :: r =>
    if c = 58 then some (.colon, r)
    else if c = 40 then some (.open_, r)
    else if c = 41 then some (.close, r)
    else if begins c = true then wTok (c :: r.takeWhile inWord) (r.dropWhile inWord)
    else if c = 45 then nTok (r.takeWhile digit) (-(number (r.takeWhile digit) : Int)) (r.dropWhile digit)
    else if digit c = true then nTok (c :: r.takeWhile digit) (number (c :: r.takeWhile digit)) (r.dropWhile digit)
    else none
theorem tok_cons (c : UInt8) (r : Bytes) : tok (c :: r) = if c = 58 then some (.colon, r)
    else if c = 40 then some (.open_, r)
    else if c = 41 then some (.close, r)
    else if begins c = true then wTok (c :: r.takeWhile inWord) (r.dropWhile inWord)
    else if c = 45 then nTok (r.takeWhile digit) (-(number (r.takeWhile digit) : Int)) (r.dropWhile digit)
    else if digit c = true then nTok (c :: r.takeWhile digit) (number (c :: r.takeWhile digit)) (r.dropWhile digit)
    else none := rfl
theorem wTok_map {w x : Bytes} (f : Bytes → Bytes) : (wTok w x).map (fun y => (y.1, f y.2)) = wTok w (f x) := by
  unfold wTok
  split <;> rfl
theorem nTok_map {d x : Bytes} {z : Int} (f : Bytes → Bytes) : (nTok d z x).map (fun y => (y.1, f y.2)) = nTok d z (f x) := by
  unfold nTok
  split <;> rfl
theorem wTok_len {w x y : Bytes} {s : Sign} (h : wTok w x = some (s, y)) : y = x := by
  unfold wTok at h
  split at h
  · cases h
  · cases h
    rfl
theorem nTok_len {d x y : Bytes} {z : Int} {s : Sign} (h : nTok d z x = some (s, y)) : y = x := by
  unfold nTok at h
  split at h
  · cases h
    rfl
  · cases h
theorem signs_eq (f : Nat) (c : UInt8) (r : Bytes) : signs (f + 1) (c :: r) = if c = 59 then some []
    else if blank c = true then signs f r
    else if c = 58 then (signs f r).map fun l => .colon :: l
    else if c = 40 then (signs f r).map fun l => .open_ :: l
    else if c = 41 then (signs f r).map fun l => .close :: l
    else if begins c = true then (if 15 < (c :: r.takeWhile inWord).length then none else (signs f (r.dropWhile inWord)).map fun l => .word (c :: r.takeWhile inWord) :: l)
    else if digit c = true ∨ c = 45 then
      (if (if c = 45 then r.takeWhile digit else c :: r.takeWhile digit) ≠ [] ∧ fits (if c = 45 then -(number (if c = 45 then r.takeWhile digit else c :: r.takeWhile digit) : Int) else number (if c = 45 then r.takeWhile digit else c :: r.takeWhile digit)) = true then
        (signs f (r.dropWhile digit)).map fun l => .num (if c = 45 then -(number (if c = 45 then r.takeWhile digit else c :: r.takeWhile digit) : Int) else number (if c = 45 then r.takeWhile digit else c :: r.takeWhile digit)) :: l else none)
    else none := rfl
theorem signs_tok (f : Nat) (c : UInt8) (r : Bytes) : signs (f + 1) (c :: r) = if c = 59 then some [] else if blank c = true then signs f r else (tok (c :: r)).bind fun x => (signs f x.2).map fun l => x.1 :: l := by
  rw [signs_eq, tok_cons]
  by_cases e1 : c = 59
  · rw [if_pos e1, if_pos e1]
  rw [if_neg e1, if_neg e1]
  by_cases e2 : blank c = true
  · rw [if_pos e2, if_pos e2]
  rw [if_neg e2, if_neg e2]
  by_cases e3 : c = 58
  · rw [if_pos e3, if_pos e3]; rfl
  rw [if_neg e3, if_neg e3]
  by_cases e4 : c = 40
  · rw [if_pos e4, if_pos e4]; rfl
  rw [if_neg e4, if_neg e4]
  by_cases e5 : c = 41
  · rw [if_pos e5, if_pos e5]; rfl
  rw [if_neg e5, if_neg e5]
  by_cases e6 : begins c = true
  · rw [if_pos e6, if_pos e6]
    unfold wTok
    split <;> rfl
  rw [if_neg e6, if_neg e6]
  by_cases e7 : c = 45
  · rw [if_pos (Or.inr e7), if_pos e7]
    simp only [if_pos e7]
    unfold nTok
    split <;> rfl
  · rw [if_neg e7]
    simp only [if_neg e7]
    by_cases e8 : digit c = true
    · rw [if_pos (Or.inl e8), if_pos e8]
      unfold nTok
      split <;> rfl
    · rw [if_neg (fun z => z.elim e8 e7), if_neg e8]
      rfl
theorem tok_len {l : Bytes} {s : Sign} {x : Bytes} (h : tok l = some (s, x)) : x.length < l.length := by
  cases l with
  | nil => cases h
  | cons c r =>
    rw [tok_cons] at h
    have d1 := dropWhile_len inWord r
    have d2 := dropWhile_len digit r
    rw [List.length_cons]
    split at h
    · cases h; omega
    split at h
    · cases h; omega
    split at h
    · cases h; omega
    split at h
    · rw [wTok_len h]; omega
    split at h
    · rw [nTok_len h]; omega
    split at h
    · rw [nTok_len h]; omega
    · cases h
theorem signs_fuel : ∀ (f g : Nat) (b : Bytes), b.length ≤ f → b.length ≤ g → signs f b = signs g b
  | 0, g, [], _, _ => by cases g <;> rfl
  | f + 1, 0, [], _, _ => rfl
  | f + 1, g + 1, [], _, _ => rfl
  | 0, _, c :: r, h, _ => absurd h (by simp)
  | f + 1, 0, c :: r, _, h => absurd h (by simp)
  | f + 1, g + 1, c :: r, h1, h2 => by
    have h1 : r.length ≤ f := Nat.le_of_succ_le_succ h1
    have h2 : r.length ≤ g := Nat.le_of_succ_le_succ h2
    rw [signs_tok, signs_tok, signs_fuel f g r h1 h2]
    split
    · rfl
    split
    · rfl
    cases q : tok (c :: r) with
    | none => rfl
    | some x =>
      have l := tok_len (s := x.1) (x := x.2) (by rw [q])
      rw [List.length_cons] at l
      show (signs f x.2).map _ = (signs g x.2).map _
      rw [signs_fuel f g x.2 (by omega) (by omega)]
/-- a line's signs -/
def sg (b : Bytes) : Option (List Sign) := signs (b.length + 1) b
theorem sg_of {f : Nat} {b : Bytes} (h : b.length ≤ f) : signs f b = sg b := signs_fuel _ _ _ h (Nat.le_succ _)
theorem sg_nil : sg [] = some [] := rfl
theorem sg_cons (c : UInt8) (r : Bytes) : sg (c :: r) = if c = 59 then some [] else if blank c = true then sg r else (tok (c :: r)).bind fun x => (sg x.2).map fun l => x.1 :: l := by
  show signs (r.length + 1 + 1) (c :: r) = _
  rw [signs_tok, sg_of (f := r.length + 1) (b := r) (Nat.le_succ _)]
  split
  · rfl
  split
  · rfl
  cases q : tok (c :: r) with
  | none => rfl
  | some x =>
    have l := tok_len (s := x.1) (x := x.2) (by rw [q])
    rw [List.length_cons] at l
    show (signs (r.length + 1) x.2).map _ = (sg x.2).map _
    rw [sg_of (f := r.length + 1) (b := x.2) (by omega)]
/-! ### what stands behind a ; isn't there -/
def shown (b : Bytes) : Bytes := b.takeWhile (fun c => c != 59)
theorem take_shown {p : UInt8 → Bool} (h : p 59 = false) : ∀ l : Bytes, (shown l).takeWhile p = l.takeWhile p
  | [] => rfl
  | c :: r => by
    unfold shown
    rw [List.takeWhile_cons]
    by_cases e : c = 59
    · subst e
      rw [List.takeWhile_cons, h]
      rfl
    · rw [if_pos (by simpa using e), List.takeWhile_cons, List.takeWhile_cons]
      have ih := take_shown h r
      unfold shown at ih
      rw [ih]
theorem drop_shown {p : UInt8 → Bool} (h : p 59 = false) : ∀ l : Bytes, (shown l).dropWhile p = shown (l.dropWhile p)
  | [] => rfl
  | c :: r => by
    unfold shown
    rw [List.takeWhile_cons]
    by_cases e : c = 59
    · subst e
      rw [List.dropWhile_cons, h]
      rfl
    · rw [if_pos (by simpa using e), List.dropWhile_cons, List.dropWhile_cons]
      have ih := drop_shown h r
      unfold shown at ih
      split
      · exact ih
      · rw [List.takeWhile_cons, if_pos (by simpa using e)]
theorem shown_cons {c : UInt8} {r : Bytes} (h : ¬ c = 59) : shown (c :: r) = c :: shown r := by
  unfold shown
  rw [List.takeWhile_cons, if_pos (by simpa using h)]
theorem tok_shown {c : UInt8} {r : Bytes} (h : ¬ c = 59) : tok (shown (c :: r)) = (tok (c :: r)).map fun x => (x.1, shown x.2) := by
  rw [shown_cons h, tok_cons, tok_cons]
  rw [take_shown (p := inWord) (by decide), take_shown (p := digit) (by decide), drop_shown (p := inWord) (by decide), drop_shown (p := digit) (by decide)]
  split
  · rfl
  split
  · rfl
  split
  · rfl
  split
  · exact (wTok_map shown).symm
  split
  · exact (nTok_map shown).symm
  split
  · exact (nTok_map shown).symm
  · rfl
theorem sg_shown : ∀ (n : Nat) (b : Bytes), b.length ≤ n → sg b = sg (shown b)
  | _, [], _ => rfl
  | 0, c :: r, h => absurd h (by simp)
  | n + 1, c :: r, h => by
    have h : r.length ≤ n := Nat.le_of_succ_le_succ h
    by_cases e : c = 59
    · subst e
      rfl
    · rw [sg_cons, if_neg e]
      have k := tok_shown (r := r) e
      rw [shown_cons e] at k ⊢
      rw [sg_cons, if_neg e, sg_shown n r h, k]
      split
      · rfl
      · cases q : tok (c :: r) with
        | none => rfl
        | some x =>
          have l := tok_len (s := x.1) (x := x.2) (by rw [q])
          show (sg x.2).map _ = (sg (shown x.2)).map _
          rw [sg_shown n x.2 (by rw [List.length_cons] at l; omega)]
/-! ### the bytes that are in no sign are all alike -/
def known (c : UInt8) : Bool := begins c || digit c || c == 58 || c == 40 || c == 41 || c == 32 || c == 9 || c == 45 || c == 59 || c == 10
def nb (c : UInt8) : UInt8 := if known c = true then c else 63
theorem all_bytes {p : UInt8 → Bool} (h : (List.range 256).all (fun n => p (UInt8.ofNat n)) = true) (c : UInt8) : p c = true := by
  have q := List.all_eq_true.mp h c.toNat (List.mem_range.mpr c.toNat_lt)
  rwa [UInt8.ofNat_toNat] at q
theorem nb_p {p : UInt8 → Bool} (h : (List.range 256).all (fun n => p (nb (UInt8.ofNat n)) == p (UInt8.ofNat n)) = true) (c : UInt8) : p (nb c) = p c := by
  have q := all_bytes (p := fun c => p (nb c) == p c) h c
  exact beq_iff_eq.mp q
theorem nb_eq {k : UInt8} (hk : (List.range 256).all (fun n => (nb (UInt8.ofNat n) == k) == (UInt8.ofNat n == k)) = true) (c : UInt8) : (nb c = k) ↔ (c = k) := by
  have q := nb_p (p := fun c => c == k) hk c
  have q : (nb c == k) = (c == k) := q
  constructor
  · intro e
    rw [e] at q
    simpa using q.symm
  · intro e
    rw [e] at q
    subst e
    simpa using q
theorem nb_in {c : UInt8} (h : inWord c = true) : nb c = c := by
  have q := all_bytes (p := fun c => !inWord c || nb c == c) (by decide +kernel) c
  simp only [h, Bool.not_true, Bool.false_or, beq_iff_eq] at q
  exact q
theorem nb_dig {c : UInt8} (h : digit c = true) : nb c = c := nb_in (by simp [inWord, h])
theorem take_nb {p : UInt8 → Bool} (hp : ∀ c, p (nb c) = p c) (hi : ∀ c, p c = true → nb c = c) : ∀ l : Bytes, (l.map nb).takeWhile p = l.takeWhile p
  | [] => rfl
  | c :: r => by
    rw [List.map_cons, List.takeWhile_cons, List.takeWhile_cons, hp, take_nb hp hi r]
    split
    · rename_i h
      rw [hi c h]
    · rfl
theorem drop_nb {p : UInt8 → Bool} (hp : ∀ c, p (nb c) = p c) : ∀ l : Bytes, (l.map nb).dropWhile p = (l.dropWhile p).map nb
  | [] => rfl
  | c :: r => by
    rw [List.map_cons, List.dropWhile_cons, List.dropWhile_cons, hp]
    split
    · exact drop_nb hp r
    · rfl
theorem nb_word (c : UInt8) : inWord (nb c) = inWord c := nb_p (by decide +kernel) c
theorem nb_digit (c : UInt8) : digit (nb c) = digit c := nb_p (by decide +kernel) c
theorem nb_begins (c : UInt8) : begins (nb c) = begins c := nb_p (by decide +kernel) c
theorem nb_blank (c : UInt8) : blank (nb c) = blank c := nb_p (by decide +kernel) c
theorem tok_nb (l : Bytes) : tok (l.map nb) = (tok l).map fun x => (x.1, x.2.map nb) := by
  cases l with
  | nil => rfl
  | cons c r =>
    rw [List.map_cons, tok_cons, tok_cons]
    rw [take_nb nb_word (fun _ h => nb_in h), take_nb nb_digit (fun _ h => nb_dig h), drop_nb nb_word, drop_nb nb_digit, nb_begins, nb_digit]
    simp only [nb_eq (k := 58) (by decide +kernel), nb_eq (k := 40) (by decide +kernel), nb_eq (k := 41) (by decide +kernel), nb_eq (k := 45) (by decide +kernel)]
    split
    · rfl
    split
    · rfl
    split
    · rfl
    split
    · rename_i b
      rw [nb_in (by simp [inWord, b])]
      exact (wTok_map (fun x => x.map nb)).symm
    split
    · exact (nTok_map (fun x => x.map nb)).symm
    split
    · rename_i d
      rw [nb_dig d]
      exact (nTok_map (fun x => x.map nb)).symm
    · rfl
theorem sg_nb : ∀ (n : Nat) (b : Bytes), b.length ≤ n → sg (b.map nb) = sg b
  | _, [], _ => rfl
  | 0, c :: r, h => absurd h (by simp)
  | n + 1, c :: r, h => by
    have h : r.length ≤ n := Nat.le_of_succ_le_succ h
    have k := tok_nb (c :: r)
    rw [List.map_cons] at k ⊢
    rw [sg_cons, sg_cons, k, nb_blank, sg_nb n r h]
    simp only [nb_eq (k := 59) (by decide +kernel)]
    split
    · rfl
    split
    · rfl
    cases q : tok (c :: r) with
    | none => rfl
    | some x =>
      have l := tok_len (s := x.1) (x := x.2) (by rw [q])
      show (sg (x.2.map nb)).map _ = (sg x.2).map _
      rw [sg_nb n x.2 (by rw [List.length_cons] at l; omega)]
theorem lines_nb : ∀ (l w : Bytes), linesOf (l.map nb) (w.map nb) = (linesOf l w).map fun x => x.map nb
  | [], [] => rfl
  | [], c :: w => rfl
  | c :: r, w => by
    rw [List.map_cons]
    simp only [linesOf, nb_eq (k := 10) (by decide +kernel)]
    split
    · rw [List.map_cons]
      exact congrArg _ (lines_nb r [])
    · have e : w.map nb ++ [nb c] = (w ++ [c]).map nb := by rw [List.map_append]; rfl
      rw [e]
      exact lines_nb r (w ++ [c])
theorem line_sg (p : Prog) (k : Nat) (b : Bytes) : p.line k b = if 255 < b.length then none else (sg b).bind fun s => match s with
  | .word w :: .colon :: r => (p.label k w).bind fun q => q.insn k r
  | _ => p.insn k s := rfl
theorem line_nb (p : Prog) (k : Nat) (b : Bytes) : p.line k (b.map nb) = p.line k b := by
  rw [line_sg, line_sg, List.length_map, sg_nb b.length b (Nat.le_refl _)]
theorem reads_nb : ∀ (l : List Bytes) (k : Nat) (p : Prog), reads k p (l.map fun x => x.map nb) = reads k p l
  | [], _, _ => rfl
  | b :: r, k, p => by
    rw [List.map_cons]
    simp only [reads]
    rw [line_nb]
    split
    · exact reads_nb r _ _
    · rfl
theorem program_nb (n : Int) (b : Bytes) : program n (b.map nb) = program n b := by
  unfold program
  have e := lines_nb b []
  have e : linesOf (b.map nb) [] = (linesOf b []).map fun x => x.map nb := e
  rw [e, reads_nb]
end SlM
set_option linter.all false
namespace SlM
open Sf47
/-! ### a sign as the program finds it: where it ends, what it is -/
def runLen (p : UInt8 → Bool) (l : Bytes) : Nat := (l.takeWhile p).length
def mark (c : UInt8) : Bool := c == 58 || c == 40 || c == 41
def endNum : Bytes → Option Nat
  | [] => none
  | c :: r => if c = 45 then (if runLen digit r = 0 then none else some (1 + runLen digit r)) else if runLen digit (c :: r) = 0 then none else some (runLen digit (c :: r))
def endLen : Bytes → Option Nat
  | [] => none
  | c :: r => if mark c = true then some 1 else if begins c = true then some (runLen inWord (c :: r)) else endNum (c :: r)
def numVal : Bytes → Int
  | [] => 0
  | c :: r => if c = 45 then -(number r : Int) else (number (c :: r) : Int)
def signOf : Bytes → Option Sign
  | [] => none
  | c :: r => if mark c = true then (if c = 58 then some .colon else if c = 40 then some .open_ else some .close)
    else if begins c = true then (if 15 < (c :: r).length then none else some (.word (c :: r)))
    else if fits (numVal (c :: r)) = true then some (.num (numVal (c :: r))) else none
theorem endNum_cons (c : UInt8) (r : Bytes) : endNum (c :: r) = if c = 45 then (if runLen digit r = 0 then none else some (1 + runLen digit r)) else if runLen digit (c :: r) = 0 then none else some (runLen digit (c :: r)) := rfl
theorem endLen_cons (c : UInt8) (r : Bytes) : endLen (c :: r) = if mark c = true then some 1 else if begins c = true then some (runLen inWord (c :: r)) else endNum (c :: r) := rfl
theorem numVal_cons (c : UInt8) (r : Bytes) : numVal (c :: r) = if c = 45 then -(number r : Int) else (number (c :: r) : Int) := rfl
theorem signOf_cons (c : UInt8) (r : Bytes) : signOf (c :: r) = if mark c = true then (if c = 58 then some .colon else if c = 40 then some .open_ else some .close)
    else if begins c = true then (if 15 < (c :: r).length then none else some (.word (c :: r)))
    else if fits (numVal (c :: r)) = true then some (.num (numVal (c :: r))) else none := rfl
theorem take_run (p : UInt8 → Bool) : ∀ l : Bytes, l.take (runLen p l) = l.takeWhile p
  | [] => rfl
  | c :: r => by
    unfold runLen
    rw [List.takeWhile_cons]
    split
    · rw [List.length_cons, List.take_succ_cons]
      exact congrArg _ (take_run p r)
    · rfl
theorem drop_run (p : UInt8 → Bool) : ∀ l : Bytes, l.drop (runLen p l) = l.dropWhile p
  | [] => rfl
  | c :: r => by
    unfold runLen
    rw [List.takeWhile_cons, List.dropWhile_cons]
    split
    · rw [List.length_cons, List.drop_succ_cons]
      exact drop_run p r
    · rfl
theorem run_cons {p : UInt8 → Bool} {c : UInt8} {r : Bytes} (h : p c = true) : runLen p (c :: r) = 1 + runLen p r := by
  unfold runLen
  rw [List.takeWhile_cons, if_pos h, List.length_cons, Nat.add_comm]
theorem run_zero {p : UInt8 → Bool} {c : UInt8} {r : Bytes} (h : ¬ p c = true) : runLen p (c :: r) = 0 := by
  unfold runLen
  rw [List.takeWhile_cons, if_neg h]
  rfl
theorem run_nil {p : UInt8 → Bool} {r : Bytes} : runLen p r = 0 ↔ r.takeWhile p = [] := List.length_eq_zero_iff
theorem run_le (p : UInt8 → Bool) : ∀ l : Bytes, runLen p l ≤ l.length
  | [] => Nat.le_refl _
  | c :: r => by
    by_cases h : p c = true
    · rw [run_cons h, List.length_cons]
      have := run_le p r
      omega
    · rw [run_zero h]
      exact Nat.zero_le _
theorem mark_iff {c : UInt8} : mark c = true ↔ c = 58 ∨ c = 40 ∨ c = 41 := by
  simp [mark, or_assoc]
theorem begins_ne {c : UInt8} (h : begins c = true) : c ≠ 45 ∧ inWord c = true := by
  refine ⟨fun e => ?_, by simp [inWord, h]⟩
  subst e
  exact absurd h (by decide)
theorem digit_ne {c : UInt8} (h : digit c = true) : c ≠ 45 := fun e => by
  subst e
  exact absurd h (by decide)
theorem tok_end (l : Bytes) : tok l = (endLen l).bind fun n => (signOf (l.take n)).map fun s => (s, l.drop n) := by
  cases l with
  | nil => rfl
  | cons c r =>
    rw [tok_cons, endLen_cons]
    by_cases m : mark c = true
    · rw [if_pos m]
      show _ = (signOf [c]).map fun s => (s, r)
      rw [signOf_cons, if_pos m]
      rcases mark_iff.mp m with rfl | rfl | rfl <;> rfl
    · have m' : ¬ c = 58 ∧ ¬ c = 40 ∧ ¬ c = 41 := ⟨fun e => m (mark_iff.mpr (.inl e)), fun e => m (mark_iff.mpr (.inr (.inl e))), fun e => m (mark_iff.mpr (.inr (.inr e)))⟩
      rw [if_neg m, if_neg m'.1, if_neg m'.2.1, if_neg m'.2.2]
      by_cases b : begins c = true
      · rw [if_pos b, if_pos b]
        obtain ⟨_, w⟩ := begins_ne b
        show _ = (signOf ((c :: r).take (runLen inWord (c :: r)))).map fun s => (s, (c :: r).drop (runLen inWord (c :: r)))
        rw [take_run, drop_run, List.takeWhile_cons, if_pos w, List.dropWhile_cons, if_pos w]
        unfold wTok
        rw [signOf_cons, if_neg m, if_pos b]
        split <;> rfl
      · rw [if_neg b, if_neg b]
        rw [endNum_cons]
        by_cases e : c = 45
        · rw [if_pos e, if_pos e]
          by_cases z : runLen digit r = 0
          · rw [if_pos z]
            unfold nTok
            rw [if_neg (fun q => q.1 (run_nil.mp z))]
            rfl
          · rw [if_neg z]
            show _ = (signOf ((c :: r).take (1 + runLen digit r))).map fun s => (s, (c :: r).drop (1 + runLen digit r))
            rw [Nat.add_comm, List.take_succ_cons, List.drop_succ_cons, take_run, drop_run]
            unfold nTok
            rw [signOf_cons, numVal_cons, if_neg m, if_neg b, if_pos e]
            have z' : r.takeWhile digit ≠ [] := fun q => z (run_nil.mpr q)
            by_cases ft : fits (-(number (r.takeWhile digit) : Int)) = true
            · rw [if_pos ⟨z', ft⟩, if_pos ft]
              rfl
            · rw [if_neg (fun q => ft q.2), if_neg ft]
              rfl
        · rw [if_neg e, if_neg e]
          by_cases d : digit c = true
          · rw [if_pos d, if_neg (by rw [run_cons d]; omega)]
            show _ = (signOf ((c :: r).take (runLen digit (c :: r)))).map fun s => (s, (c :: r).drop (runLen digit (c :: r)))
            rw [take_run, drop_run, List.takeWhile_cons, if_pos d, List.dropWhile_cons, if_pos d]
            unfold nTok
            rw [signOf_cons, numVal_cons, if_neg m, if_neg b, if_neg e]
            by_cases ft : fits (number (c :: r.takeWhile digit) : Int) = true
            · rw [if_pos ⟨by simp, ft⟩, if_pos ft]
              rfl
            · rw [if_neg (fun q => ft q.2), if_neg ft]
              rfl
          · rw [if_neg d, if_pos (run_zero d)]
            rfl
theorem endLen_pos {l : Bytes} {n : Nat} (h : endLen l = some n) : 0 < n ∧ n ≤ l.length := by
  cases l with
  | nil => cases h
  | cons c r =>
    rw [endLen_cons] at h
    have r1 := run_le inWord (c :: r)
    have r2 := run_le digit (c :: r)
    have r3 := run_le digit r
    rw [List.length_cons] at r1 r2 ⊢
    split at h
    · cases h; omega
    split at h
    · rename_i b
      have := run_cons (r := r) (begins_ne b).2
      cases h; omega
    rw [endNum_cons] at h
    split at h
    · split at h
      · cases h
      · cases h; omega
    · split at h
      · cases h
      · cases h; omega
/-! ### bits and words by their names -/
/-- kinds as the program calls them: a letter's text, "constant", "number", "label" -/
def bitKV : Bit → Bytes × Int
  | .i n => (txt "I", n)
  | .q n => (txt "Q", n)
  | .m n => (txt "M", n)
  | .t n => (txt "T", n)
  | .c n => (txt "C", n)
  | .lit b => (txt "constant", if b = true then 1 else 0)
def wordKV : Word → Bytes × Int
  | .w n => (txt "W", n)
  | .e n => (txt "E", n)
  | .v n => (txt "V", n)
  | .lit z => (txt "number", z)
def opKV : Bit ⊕ Word → Bytes × Int
  | .inl b => bitKV b
  | .inr w => wordKV w
def sizes : List (UInt8 × Nat) := [(73, 64), (81, 64), (77, 256), (84, 32), (67, 32), (87, 256), (69, 32), (86, 32)]
def plain (d : Bytes) : Bool := d == [48] || (!d.isEmpty && d.all digit && d.head? != some 48)
theorem plain_iff (d : Bytes) : plain d = true ↔ d ≠ [] ∧ d.all digit = true ∧ (d.length = 1 ∨ d.head? ≠ some 48) := by
  cases d with
  | nil => simp [plain]
  | cons c r =>
    cases r with
    | nil =>
      simp only [plain]
      by_cases e : c = 48
      · subst e
        decide
      · simp [e]
    | cons c' r' => simp [plain]
/-- the name of a bit or a word: its kind, its number -/
def nameKV (w : Bytes) : Option (Bytes × Int) := if w = txt "TRUE" then some (txt "constant", 1) else if w = txt "FALSE" then some (txt "constant", 0) else match w with
  | [] => none
  | x :: d => match sizes.lookup x with
    | none => none
    | some most => if plain d = true then (if number d < most then some ([x], (number d : Int)) else none) else none
theorem numbered_eq (x : UInt8) (d : Bytes) (c : UInt8) (most : Nat) : numbered (x :: d) c most = if x = c then (if plain d = true then (if number d < most then some (number d) else none) else none) else none := by
  show (if x = c ∧ d ≠ [] ∧ d.all digit = true ∧ (d.length = 1 ∨ d.head? ≠ some 48) ∧ number d < most then some (number d) else none) = _
  by_cases e : x = c
  · rw [if_pos e]
    by_cases p : plain d = true
    · rw [if_pos p]
      obtain ⟨p1, p2, p3⟩ := (plain_iff d).mp p
      by_cases n : number d < most
      · rw [if_pos ⟨e, p1, p2, p3, n⟩, if_pos n]
      · rw [if_neg (fun q => n q.2.2.2.2), if_neg n]
    · rw [if_neg p, if_neg (fun q => p ((plain_iff d).mpr ⟨q.2.1, q.2.2.1, q.2.2.2.1⟩))]
  · rw [if_neg e, if_neg (fun q => e q.1)]
theorem first_cons {α : Type} (o : Option α) (l : List (Option α)) : first (o :: l) = match o with | some a => some a | none => first l := by
  unfold first
  cases o <;> rfl
theorem num_some {c : UInt8} {d : Bytes} {most : Nat} : numbered (c :: d) c most = if plain d = true then (if number d < most then some (number d) else none) else none := by rw [numbered_eq, if_pos rfl]
theorem num_none {x c : UInt8} {d : Bytes} {most : Nat} (h : x ≠ c) : numbered (x :: d) c most = none := by rw [numbered_eq, if_neg h]
theorem plain_true {r : Bytes} : plain (82 :: r) = false := by
  cases h : plain (82 :: r) with
  | false => rfl
  | true =>
    have q := ((plain_iff _).mp h).2.1
    rw [List.all_cons] at q
    exact absurd q (by rw [show digit 82 = false from by decide]; simp)
theorem operand_word (w : Bytes) : operand (.word w) = match first [(numbered w 87 256).map Word.w, (numbered w 69 32).map Word.e, (numbered w 86 32).map Word.v] with
  | some x => some (.inr x)
  | none => (bitOf w).map Sum.inl := rfl
theorem bitOf_else {w : Bytes} (t : ¬ w = txt "TRUE") (f : ¬ w = txt "FALSE") : bitOf w = first [(numbered w 73 64).map Bit.i, (numbered w 81 64).map Bit.q, (numbered w 77 256).map Bit.m, (numbered w 84 32).map Bit.t, (numbered w 67 32).map Bit.c] := by
  unfold bitOf
  rw [if_neg t, if_neg f]
theorem name_is (w : Bytes) : nameKV w = (operand (.word w)).map opKV := by
  by_cases t : w = txt "TRUE"
  · subst t
    decide
  by_cases f : w = txt "FALSE"
  · subst f
    decide
  unfold nameKV
  rw [if_neg t, if_neg f, operand_word, bitOf_else t f]
  cases w with
  | nil => rfl
  | cons x d =>
    by_cases h : x ∈ [73, 81, 77, 84, 67, 87, 69, 86]
    · simp only [List.mem_cons, List.not_mem_nil, or_false] at h
      clear t f
      rcases h with rfl | rfl | rfl | rfl | rfl | rfl | rfl | rfl <;>
        (simp (decide := true) only [numbered_eq, if_true, if_false, Option.map_none, first_cons]
         show (if plain d = true then _ else _) = _
         split
         · split <;> rfl
         · rfl)
    · have hx : ∀ y ∈ [73, 81, 77, 84, 67, 87, 69, 86], x ≠ y := fun y hy e => h (e ▸ hy)
      have e1 : sizes.lookup x = none := by
        unfold sizes
        simp only [List.lookup_cons]
        rw [beq_eq_false_iff_ne.mpr (hx 73 (by simp)), beq_eq_false_iff_ne.mpr (hx 81 (by simp)), beq_eq_false_iff_ne.mpr (hx 77 (by simp)), beq_eq_false_iff_ne.mpr (hx 84 (by simp)), beq_eq_false_iff_ne.mpr (hx 67 (by simp)), beq_eq_false_iff_ne.mpr (hx 87 (by simp)), beq_eq_false_iff_ne.mpr (hx 69 (by simp)), beq_eq_false_iff_ne.mpr (hx 86 (by simp))]
        rfl
      simp only [e1]
      rw [num_none (hx 73 (by simp)), num_none (hx 81 (by simp)), num_none (hx 77 (by simp)), num_none (hx 84 (by simp)), num_none (hx 67 (by simp)), num_none (hx 87 (by simp)), num_none (hx 69 (by simp)), num_none (hx 86 (by simp))]
      rfl
end SlM
set_option linter.all false
set_option maxRecDepth 4000
namespace SlM
open Sf47
/-! ### operands by what the specification calls them -/
theorem op_named (w : Bytes) : (numbered w 87 256 = (operand (.word w)).bind fun o => match o with | .inr (.w n) => some n | _ => none) ∧
    (numbered w 84 32 = (operand (.word w)).bind fun o => match o with | .inl (.t n) => some n | _ => none) ∧
    (numbered w 67 32 = (operand (.word w)).bind fun o => match o with | .inl (.c n) => some n | _ => none) ∧
    (numbered w 77 256 = (operand (.word w)).bind fun o => match o with | .inl (.m n) => some n | _ => none) ∧
    (bitOf w = (operand (.word w)).bind fun o => match o with | .inl b => some b | _ => none) := by
  by_cases t : w = txt "TRUE"
  · subst t
    decide
  by_cases f : w = txt "FALSE"
  · subst f
    decide
  rw [operand_word, bitOf_else t f]
  cases w with
  | nil => decide
  | cons x d =>
    clear t f
    by_cases h : x ∈ [73, 81, 77, 84, 67, 87, 69, 86]
    · simp only [List.mem_cons, List.not_mem_nil, or_false] at h
      rcases h with rfl | rfl | rfl | rfl | rfl | rfl | rfl | rfl <;>
        (simp (decide := true) only [numbered_eq, if_true, if_false, Option.map_none, first_cons]
         by_cases p : plain d = true
         · simp only [p, if_true]
           by_cases n : number d < 32
           · have n2 : number d < 64 := by omega
             have n3 : number d < 256 := by omega
             simp only [n, n2, n3, if_true]
             exact ⟨rfl, rfl, rfl, rfl, rfl⟩
           · by_cases n2 : number d < 64
             · have n3 : number d < 256 := by omega
               simp only [n, n2, n3, if_true, if_false]
               exact ⟨rfl, rfl, rfl, rfl, rfl⟩
             · by_cases n3 : number d < 256
               · simp only [n, n2, n3, if_true, if_false]
                 exact ⟨rfl, rfl, rfl, rfl, rfl⟩
               · simp only [n, n2, n3, if_false]
                 exact ⟨rfl, rfl, rfl, rfl, rfl⟩
         · simp only [p, if_false]
           exact ⟨rfl, rfl, rfl, rfl, rfl⟩)
    · have hx : ∀ y ∈ [73, 81, 77, 84, 67, 87, 69, 86], x ≠ y := fun y hy e => h (e ▸ hy)
      rw [num_none (hx 73 (by simp)), num_none (hx 81 (by simp)), num_none (hx 77 (by simp)), num_none (hx 84 (by simp)), num_none (hx 67 (by simp)), num_none (hx 87 (by simp)), num_none (hx 69 (by simp)), num_none (hx 86 (by simp))]
      exact ⟨rfl, rfl, rfl, rfl, rfl⟩
theorem op_num (z : Int) : operand (.num z) = some (.inr (.lit z)) := rfl
theorem op_colon : operand .colon = none := rfl
theorem op_open : operand .open_ = none := rfl
theorem op_close : operand .close = none := rfl
theorem named_w (s : Sign) : named s 87 256 = (operand s).bind fun o => match o with | .inr (.w n) => some n | _ => none := by
  cases s with
  | word w => exact (op_named w).1
  | _ => rfl
theorem named_t (s : Sign) : named s 84 32 = (operand s).bind fun o => match o with | .inl (.t n) => some n | _ => none := by
  cases s with
  | word w => exact (op_named w).2.1
  | _ => rfl
theorem named_c (s : Sign) : named s 67 32 = (operand s).bind fun o => match o with | .inl (.c n) => some n | _ => none := by
  cases s with
  | word w => exact (op_named w).2.2.1
  | _ => rfl
theorem named_m (s : Sign) : named s 77 256 = (operand s).bind fun o => match o with | .inl (.m n) => some n | _ => none := by
  cases s with
  | word w => exact (op_named w).2.2.2.1
  | _ => rfl
/-- a bit by its word -/
def bitSign (s : Sign) : Option Bit := (operand s).bind fun o => match o with | .inl b => some b | _ => none
theorem bit_word (w : Bytes) : bitOf w = bitSign (.word w) := (op_named w).2.2.2.2
theorem target_is (s : Sign) : target s = (bitSign s).bind fun b => if writable b = true then some b else none := by
  cases s with
  | word w =>
    show (bitOf w).bind _ = _
    rw [bit_word]
  | _ => rfl
/-! ### the tables of the program -/
def forms : List (Bytes × List Bytes) := [(txt "LD", [txt "any"]), (txt "LDN", [txt "bit"]), (txt "ST", [txt "stored"]), (txt "STN", [txt "stored bit"]), (txt "S", [txt "stored bit"]), (txt "R", [txt "stored bit"]), (txt "NOT", []),
  (txt "AND", [txt "bit"]), (txt "OR", [txt "bit"]), (txt "XOR", [txt "bit"]), (txt "ANDN", [txt "bit"]), (txt "ORN", [txt "bit"]), (txt "XORN", [txt "bit"]),
  (txt "ADD", [txt "word"]), (txt "SUB", [txt "word"]), (txt "MUL", [txt "word"]), (txt "DIV", [txt "word"]), (txt "MOD", [txt "word"]),
  (txt "GT", [txt "word"]), (txt "GE", [txt "word"]), (txt "EQ", [txt "word"]), (txt "NE", [txt "word"]), (txt "LE", [txt "word"]), (txt "LT", [txt "word"]),
  (txt ")", []), (txt "JMP", [txt "label"]), (txt "JMPC", [txt "label"]), (txt "JMPCN", [txt "label"]), (txt "RET", []), (txt "RETC", []),
  (txt "TON", [txt "timer", txt "duration"]), (txt "TOF", [txt "timer", txt "duration"]), (txt "TP", [txt "timer", txt "duration"]), (txt "CTU", [txt "counter", txt "number"]), (txt "RC", [txt "counter"]), (txt "UP", [txt "edge"]), (txt "DOWN", [txt "edge"])]
def putOff : List Bytes := [txt "AND", txt "OR", txt "XOR", txt "ANDN", txt "ORN", txt "XORN", txt "ADD", txt "SUB", txt "MUL", txt "DIV", txt "MOD", txt "GT", txt "GE", txt "EQ", txt "NE", txt "LE", txt "LT"]
def kinds : List (Bytes × List Bytes) := [(txt "any", [txt "I", txt "Q", txt "M", txt "T", txt "C", txt "constant", txt "W", txt "E", txt "V", txt "number"]), (txt "bit", [txt "I", txt "Q", txt "M", txt "T", txt "C", txt "constant"]), (txt "word", [txt "W", txt "E", txt "V", txt "number"]),
  (txt "stored", [txt "Q", txt "M", txt "W"]), (txt "stored bit", [txt "Q", txt "M"]), (txt "timer", [txt "T"]), (txt "counter", [txt "C"]), (txt "edge", [txt "M"]), (txt "number", [txt "number"]), (txt "duration", [txt "number"]), (txt "label", [txt "label"])]
/-! ### the program's reading of an operand -/
abbrev Opd := Bytes × (Bytes ⊕ Int)
def valueOf : Sign → Option (Bytes × Int)
  | .num z => some (txt "number", z)
  | .word w => nameKV w
  | _ => none
theorem valueOf_is (s : Sign) : valueOf s = (operand s).map opKV := by
  cases s with
  | word w => exact name_is w
  | _ => rfl
def kindIn (f k : Bytes) : Bool := ((kinds.lookup f).getD []).contains k
def readOp (s : Sign) (f : Bytes) : Option Opd :=
  if f = txt "label" then (match s with | .word w => some (txt "label", .inl w) | _ => none)
  else (valueOf s).bind fun kv => if kindIn f kv.1 = true then (if f = txt "duration" ∧ kv.2 < 0 then none else some (kv.1, .inr kv.2)) else none
def E (o : Bit ⊕ Word) : Opd := ((opKV o).1, .inr (opKV o).2)
theorem readOp_as {f : Bytes} (h1 : f ≠ txt "label") (h2 : f ≠ txt "duration") (s : Sign) : readOp s f = (operand s).bind fun o => if kindIn f (opKV o).1 = true then some (E o) else none := by
  unfold readOp
  rw [if_neg h1, valueOf_is]
  cases operand s with
  | none => rfl
  | some o =>
    have e : (if f = txt "duration" ∧ (opKV o).2 < 0 then none else some ((opKV o).1, Sum.inr (opKV o).2)) = some (E o) := if_neg (fun q => h2 q.1)
    show (if kindIn f (opKV o).1 = true then (if f = txt "duration" ∧ (opKV o).2 < 0 then none else some ((opKV o).1, Sum.inr (opKV o).2)) else none) = _
    rw [e]
    rfl
theorem readOp_any (s : Sign) : readOp s (txt "any") = (operand s).map E := by
  rw [readOp_as (by decide) (by decide)]
  rcases operand s with _ | ((_ | _ | _ | _ | _ | b) | (_ | _ | _ | _)) <;> first | rfl | (cases b <;> rfl)
theorem readOp_bit (s : Sign) : readOp s (txt "bit") = (bitSign s).map fun b => E (.inl b) := by
  rw [readOp_as (by decide) (by decide)]
  unfold bitSign
  rcases operand s with _ | ((_ | _ | _ | _ | _ | b) | (_ | _ | _ | _)) <;> first | rfl | (cases b <;> rfl)
theorem readOp_word (s : Sign) : readOp s (txt "word") = (operand s).bind fun o => match o with | .inr w => some (E (.inr w)) | _ => none := by
  rw [readOp_as (by decide) (by decide)]
  rcases operand s with _ | ((_ | _ | _ | _ | _ | b) | (_ | _ | _ | _)) <;> first | rfl | (cases b <;> rfl)
theorem readOp_sbit (s : Sign) : readOp s (txt "stored bit") = (target s).map fun b => E (.inl b) := by
  rw [readOp_as (by decide) (by decide), target_is]
  unfold bitSign
  rcases operand s with _ | ((_ | _ | _ | _ | _ | b) | (_ | _ | _ | _)) <;> first | rfl | (cases b <;> rfl)
theorem readOp_stored (s : Sign) : readOp s (txt "stored") = match target s with
    | some b => some (E (.inl b))
    | none => (named s 87 256).map fun n => E (.inr (.w n)) := by
  rw [readOp_as (by decide) (by decide), target_is, named_w]
  unfold bitSign
  rcases operand s with _ | ((_ | _ | _ | _ | _ | b) | (_ | _ | _ | _)) <;> first | rfl | (cases b <;> rfl)
theorem readOp_timer (s : Sign) : readOp s (txt "timer") = (named s 84 32).map fun n => E (.inl (.t n)) := by
  rw [readOp_as (by decide) (by decide), named_t]
  rcases operand s with _ | ((_ | _ | _ | _ | _ | b) | (_ | _ | _ | _)) <;> first | rfl | (cases b <;> rfl)
theorem readOp_counter (s : Sign) : readOp s (txt "counter") = (named s 67 32).map fun n => E (.inl (.c n)) := by
  rw [readOp_as (by decide) (by decide), named_c]
  rcases operand s with _ | ((_ | _ | _ | _ | _ | b) | (_ | _ | _ | _)) <;> first | rfl | (cases b <;> rfl)
theorem readOp_edge (s : Sign) : readOp s (txt "edge") = (named s 77 256).map fun n => E (.inl (.m n)) := by
  rw [readOp_as (by decide) (by decide), named_m]
  rcases operand s with _ | ((_ | _ | _ | _ | _ | b) | (_ | _ | _ | _)) <;> first | rfl | (cases b <;> rfl)
theorem readOp_number (s : Sign) : readOp s (txt "number") = match s with | .num z => some (txt "number", .inr z) | _ => none := by
  rw [readOp_as (by decide) (by decide)]
  cases s with
  | word w =>
    show (operand (.word w)).bind _ = none
    rw [operand_word]
    unfold first
    have h : ∀ o : Option Bit, (o.map Sum.inl : Option (Bit ⊕ Word)).bind (fun o => if kindIn (txt "number") (opKV o).1 = true then some (E o) else none) = none := fun o => by
      rcases o with _ | (_ | _ | _ | _ | _ | b) <;> first | rfl | (cases b <;> rfl)
    cases numbered w 87 256 with
    | some n => rfl
    | none =>
      cases numbered w 69 32 with
      | some n => rfl
      | none =>
        cases numbered w 86 32 with
        | some n => rfl
        | none => exact h _
  | _ => rfl
theorem readOp_duration (s : Sign) : readOp s (txt "duration") = match s with | .num z => (if 0 ≤ z then some (txt "number", .inr z) else none) | _ => none := by
  have k := readOp_number s
  rw [readOp_as (by decide) (by decide)] at k
  unfold readOp
  rw [if_neg (by decide), valueOf_is]
  cases s with
  | num z =>
    show (if kindIn (txt "duration") (txt "number") = true then (if txt "duration" = txt "duration" ∧ z < 0 then none else some ((txt "number", Sum.inr z) : Opd)) else none) = _
    rw [if_pos (by decide)]
    by_cases c : z < 0
    · rw [if_pos ⟨rfl, c⟩]
      exact (if_neg (by omega)).symm
    · rw [if_neg (fun q => c q.2)]
      exact (if_pos (by omega)).symm
  | word w =>
    cases q : operand (.word w) with
    | none => rfl
    | some o =>
      rw [q] at k
      show (if kindIn (txt "duration") (opKV o).1 = true then _ else none) = none
      have k : (if kindIn (txt "number") (opKV o).1 = true then some (E o) else none) = none := k
      by_cases c : kindIn (txt "number") (opKV o).1 = true
      · rw [if_pos c] at k
        cases k
      · exact if_neg c
  | _ => rfl
theorem readOp_label (s : Sign) : readOp s (txt "label") = match s with | .word w => some (txt "label", .inl w) | _ => none := by
  unfold readOp
  rw [if_pos rfl]
end SlM
set_option linter.all false
set_option maxRecDepth 8000
set_option maxHeartbeats 2000000
namespace SlM
open Sf47
/-! ### an instruction's name, whether it opens, its operands -/
def readOps : List Sign → List Bytes → Option (List Opd)
  | [], [] => some []
  | s :: ss, f :: fs => (readOp s f).bind fun o => (readOps ss fs).map fun l => o :: l
  | _, _ => none
abbrev Ins := Bytes × Bool × List Opd
/-- a sign's text, where it is one -/
def textOf : Sign → Option Bytes
  | .word w => some w
  | .num _ => none
  | .colon => some [58]
  | .open_ => some [40]
  | .close => some [41]
def readIns : List Sign → Option Ins
  | [] => none
  | s :: t => (textOf s).bind fun n => (forms.lookup n).bind fun fs => match t with
    | .open_ :: t' => if putOff.contains n = true then (readOps t' [txt "any"]).map fun l => (n, true, l) else none
    | _ => (readOps t fs).map fun l => (n, false, l)
def binName : Bin → Bytes
  | .logic .and false => txt "AND"
  | .logic .or false => txt "OR"
  | .logic .xor false => txt "XOR"
  | .logic .and true => txt "ANDN"
  | .logic .or true => txt "ORN"
  | .logic .xor true => txt "XORN"
  | .arith .add => txt "ADD"
  | .arith .sub => txt "SUB"
  | .arith .mul => txt "MUL"
  | .arith .div => txt "DIV"
  | .arith .mod => txt "MOD"
  | .cmp .gt => txt "GT"
  | .cmp .ge => txt "GE"
  | .cmp .eq => txt "EQ"
  | .cmp .ne => txt "NE"
  | .cmp .le => txt "LE"
  | .cmp .lt => txt "LT"
def insKV : Insn → Ins
  | .ld x => (txt "LD", false, [E x])
  | .ldn b => (txt "LDN", false, [E (.inl b)])
  | .st n b => (if n = true then txt "STN" else txt "ST", false, [E (.inl b)])
  | .stw n => (txt "ST", false, [E (.inr (.w n))])
  | .put one b => (if one = true then txt "S" else txt "R", false, [E (.inl b)])
  | .not => (txt "NOT", false, [])
  | .bin o x => (binName o, false, [E x])
  | .open_ o x => (binName o, true, [E x])
  | .close => (txt ")", false, [])
  | .jmp k l => (match k with | .always => txt "JMP" | .one => txt "JMPC" | .zero => txt "JMPCN", false, [(txt "label", .inl l)])
  | .ret c => (if c = true then txt "RETC" else txt "RET", false, [])
  | .timer k t w => (match k with | .ton => txt "TON" | .tof => txt "TOF" | .tp => txt "TP", false, [E (.inl (.t t)), (txt "number", .inr (w : Int))])
  | .ctu c w => (txt "CTU", false, [E (.inl (.c c)), (txt "number", .inr w)])
  | .rc c => (txt "RC", false, [E (.inl (.c c))])
  | .edge up m => (if up = true then txt "UP" else txt "DOWN", false, [E (.inl (.m m))])
/-! ### the specification's reading, by how many signs there are -/
theorem insn_one (w : Bytes) : insn [.word w] = if w = txt "NOT" then some .not else if w = txt "RET" then some (.ret false) else if w = txt "RETC" then some (.ret true) else none := rfl
theorem insn_open (w : Bytes) (x : Sign) : insn [.word w, .open_, x] = (binOf w).bind fun o => (operand x).map fun y => .open_ o y := by cases x <;> rfl
theorem insn_two (w : Bytes) (x : Sign) : insn [.word w, x] =
    if w = txt "LD" then (operand x).map Insn.ld
    else if w = txt "LDN" then (bitSign x).map Insn.ldn
    else if w = txt "ST" then (match target x with
      | some b => some (.st false b)
      | none => (named x 87 256).map Insn.stw)
    else if w = txt "STN" then (target x).map (Insn.st true)
    else if w = txt "S" then (target x).map (Insn.put true)
    else if w = txt "R" then (target x).map (Insn.put false)
    else if w = txt "JMP" ∨ w = txt "JMPC" ∨ w = txt "JMPCN" then (match x with
      | .word l => some (.jmp (if w = txt "JMP" then .always else if w = txt "JMPC" then .one else .zero) l)
      | _ => none)
    else if w = txt "RC" then (named x 67 32).map Insn.rc
    else if w = txt "UP" then (named x 77 256).map (Insn.edge true)
    else if w = txt "DOWN" then (named x 77 256).map (Insn.edge false)
    else (binOf w).bind fun o => (operand x).bind fun y => if o.takes y = true then some (.bin o y) else none := by
  cases x with
  | word y =>
    rw [← bit_word]
    rfl
  | _ => rfl
theorem insn_three (w : Bytes) (x : Sign) (z : Int) (h : x ≠ .open_) : insn [.word w, x, .num z] = if w = txt "CTU" then (named x 67 32).map fun c => .ctu c z
    else (if w = txt "TON" then some Timer.ton else if w = txt "TOF" then some .tof else if w = txt "TP" then some .tp else none).bind fun k => (named x 84 32).bind fun t => if 0 ≤ z then some (.timer k t z.toNat) else none := by
  cases x with
  | open_ => exact absurd rfl h
  | _ => rfl
theorem insn_three_no (w : Bytes) (x y : Sign) (h : x ≠ .open_) (hy : ∀ z, y ≠ .num z) : insn [.word w, x, y] = none := by
  cases x with
  | open_ => exact absurd rfl h
  | _ => cases y with
    | num z => exact absurd rfl (hy z)
    | _ => rfl
theorem insn_more (w : Bytes) (x y z : Sign) (r : List Sign) : insn (.word w :: x :: y :: z :: r) = none := by
  cases x <;> cases y <;> rfl
/-! ### the program's -/
theorem ops_len : ∀ {ss : List Sign} {fs : List Bytes}, ss.length ≠ fs.length → readOps ss fs = none
  | [], [], h => absurd rfl h
  | [], _ :: _, _ => rfl
  | _ :: _, [], _ => rfl
  | s :: ss, f :: fs, h => by
    unfold readOps
    rw [ops_len (ss := ss) (fs := fs) (by simpa using h)]
    cases readOp s f <;> rfl
theorem ops_one (s : Sign) (f : Bytes) : readOps [s] [f] = (readOp s f).map fun o => [o] := by
  unfold readOps readOps
  cases readOp s f <;> rfl
theorem ops_two (s t : Sign) (f g : Bytes) : readOps [s, t] [f, g] = (readOp s f).bind fun o => (readOp t g).map fun p => [o, p] := by
  unfold readOps
  rw [ops_one]
  cases readOp s f with
  | none => rfl
  | some o => cases readOp t g <;> rfl
theorem ins_plain {w : Bytes} {fs : List Bytes} {t : List Sign} (h : forms.lookup w = some fs) (ht : ∀ t', t ≠ .open_ :: t') : readIns (.word w :: t) = (readOps t fs).map fun l => (w, false, l) := by
  unfold readIns
  show ((forms.lookup w).bind fun fs => _) = _
  rw [h]
  cases t with
  | nil => rfl
  | cons s r =>
    cases s with
    | open_ => exact absurd rfl (ht r)
    | _ => rfl
theorem ins_paren {w : Bytes} {fs : List Bytes} {t : List Sign} (h : forms.lookup w = some fs) : readIns (.word w :: .open_ :: t) = if putOff.contains w = true then (readOps t [txt "any"]).map fun l => (w, true, l) else none := by
  unfold readIns
  show ((forms.lookup w).bind fun fs => _) = _
  rw [h]
  rfl
theorem ne_of_lookup {w n : Bytes} {fs : List Bytes} (h : forms.lookup w = none) (hn : forms.lookup n = some fs) : w ≠ n := fun e => by
  rw [e, hn] at h
  cases h
theorem bin_none {w : Bytes} (h : ¬ putOff.contains w = true) : binOf w = none := by
  have hn : ∀ n ∈ putOff, n ≠ w := fun n hm e => h (by rw [← e]; exact List.contains_iff_mem.mpr hm)
  unfold binOf
  rw [List.find?_eq_none.mpr, Option.map_none]
  intro p hp
  have hm : p.1 ∈ putOff := by
    simp only [List.mem_cons, List.not_mem_nil, or_false] at hp
    rcases hp with rfl | rfl | rfl | rfl | rfl | rfl | rfl | rfl | rfl | rfl | rfl | rfl | rfl | rfl | rfl | rfl | rfl <;> decide
  simpa using hn p.1 hm
theorem ins_unknown {w : Bytes} (h : forms.lookup w = none) (t : List Sign) : insn (.word w :: t) = none := by
  have ne := fun {n fs} (hn : forms.lookup n = some fs) => ne_of_lookup h hn
  have b : binOf w = none := bin_none fun q => by
    have m := List.contains_iff_mem.mp q
    unfold putOff at m
    simp only [List.mem_cons, List.not_mem_nil, or_false] at m
    rcases m with e | e | e | e | e | e | e | e | e | e | e | e | e | e | e | e | e <;> (subst e; exact absurd h (by decide))
  rcases t with _ | ⟨x, _ | ⟨y, _ | ⟨z, r⟩⟩⟩
  · rw [insn_one, if_neg (ne (n := txt "NOT") rfl), if_neg (ne (n := txt "RET") rfl), if_neg (ne (n := txt "RETC") rfl)]
  · rw [insn_two, if_neg (ne (n := txt "LD") rfl), if_neg (ne (n := txt "LDN") rfl), if_neg (ne (n := txt "ST") rfl), if_neg (ne (n := txt "STN") rfl), if_neg (ne (n := txt "S") rfl), if_neg (ne (n := txt "R") rfl),
      if_neg (fun q => q.elim (ne (n := txt "JMP") rfl) fun q => q.elim (ne (n := txt "JMPC") rfl) (ne (n := txt "JMPCN") rfl)), if_neg (ne (n := txt "RC") rfl), if_neg (ne (n := txt "UP") rfl), if_neg (ne (n := txt "DOWN") rfl), b]
    rfl
  · by_cases ho : x = .open_
    · subst ho
      rw [insn_open, b]
      rfl
    · by_cases hy : ∃ z, y = .num z
      · obtain ⟨z, rfl⟩ := hy
        rw [insn_three _ _ _ ho, if_neg (ne (n := txt "CTU") rfl), if_neg (ne (n := txt "TON") rfl), if_neg (ne (n := txt "TOF") rfl), if_neg (ne (n := txt "TP") rfl)]
        rfl
      · exact insn_three_no _ _ _ ho fun z e => hy ⟨z, e⟩
  · exact insn_more _ _ _ _ _
end SlM
set_option linter.all false
set_option maxRecDepth 8000
set_option maxHeartbeats 2000000
namespace SlM
open Sf47
def binForm : Bin → Bytes
  | .logic _ _ => txt "bit"
  | _ => txt "word"
theorem bin_facts (o : Bin) : forms.lookup (binName o) = some [binForm o] ∧ putOff.contains (binName o) = true ∧ binOf (binName o) = some o ∧
    (binName o ≠ txt "LD" ∧ binName o ≠ txt "LDN" ∧ binName o ≠ txt "ST" ∧ binName o ≠ txt "STN" ∧ binName o ≠ txt "S" ∧ binName o ≠ txt "R" ∧ binName o ≠ txt "JMP" ∧ binName o ≠ txt "JMPC" ∧ binName o ≠ txt "JMPCN" ∧ binName o ≠ txt "RC" ∧ binName o ≠ txt "UP" ∧ binName o ≠ txt "DOWN") ∧
    (binName o ≠ txt "NOT" ∧ binName o ≠ txt "RET" ∧ binName o ≠ txt "RETC") ∧ binName o ≠ txt "CTU" ∧ binName o ≠ txt "TON" ∧ binName o ≠ txt "TOF" ∧ binName o ≠ txt "TP" := by
  rcases o with (⟨_ | _ | _, _ | _⟩ | (_ | _ | _ | _ | _) | (_ | _ | _ | _ | _ | _)) <;> decide +kernel
theorem ins_bin (o : Bin) (t : List Sign) : readIns (.word (binName o) :: t) = (insn (.word (binName o) :: t)).map insKV := by
  obtain ⟨f1, f2, f3, ⟨a1, a2, a3, a4, a5, a6, a7, a8, a9, a10, a11, a12⟩, ⟨b1, b2, b3⟩, c1, c2, c3, c4⟩ := bin_facts o
  rcases t with _ | ⟨x, _ | ⟨y, _ | ⟨z, r⟩⟩⟩
  · rw [ins_plain f1 (fun _ h => by cases h), ops_len (by simp), insn_one, if_neg b1, if_neg b2, if_neg b3]
    rfl
  · rw [insn_two, if_neg a1, if_neg a2, if_neg a3, if_neg a4, if_neg a5, if_neg a6, if_neg (fun q => q.elim a7 fun q => q.elim a8 a9), if_neg a10, if_neg a11, if_neg a12, f3]
    by_cases ho : x = .open_
    · subst ho
      rw [ins_paren f1, if_pos f2, ops_len (by simp)]
      rfl
    · rw [ins_plain f1 (fun _ h => ho (List.cons.inj h).1), ops_one]
      cases o with
      | logic p n =>
        rw [show binForm (.logic p n) = txt "bit" from rfl, readOp_bit]
        unfold bitSign
        rcases operand x with _ | (b | w) <;> rfl
      | arith p =>
        rw [show binForm (.arith p) = txt "word" from rfl, readOp_word]
        rcases operand x with _ | (b | w) <;> rfl
      | cmp p =>
        rw [show binForm (.cmp p) = txt "word" from rfl, readOp_word]
        rcases operand x with _ | (b | w) <;> rfl
  · by_cases ho : x = .open_
    · subst ho
      rw [ins_paren f1, if_pos f2, ops_one, insn_open, f3, readOp_any]
      cases operand y <;> rfl
    · rw [ins_plain f1 (fun _ h => ho (List.cons.inj h).1), ops_len (by simp)]
      by_cases hy : ∃ z, y = .num z
      · obtain ⟨z, rfl⟩ := hy
        rw [insn_three _ _ _ ho, if_neg c1, if_neg c2, if_neg c3, if_neg c4]
        rfl
      · rw [insn_three_no _ _ _ ho fun z e => hy ⟨z, e⟩]
        rfl
  · rw [insn_more]
    by_cases ho : x = .open_
    · subst ho
      rw [ins_paren f1, if_pos f2, ops_len (by simp)]
      rfl
    · rw [ins_plain f1 (fun _ h => ho (List.cons.inj h).1), ops_len (by simp)]
      rfl
/-- a name that can't be put off, with at most one operand -/
theorem ins_other {w : Bytes} {fs : List Bytes} (f1 : forms.lookup w = some fs) (f2 : ¬ putOff.contains w = true) (hl : fs.length ≤ 1) (hc : ¬ w = txt "CTU" ∧ ¬ w = txt "TON" ∧ ¬ w = txt "TOF" ∧ ¬ w = txt "TP")
    (h0 : (readOps [] fs).map (fun l => (w, false, l)) = (insn [.word w]).map insKV) (h1 : ∀ x, x ≠ .open_ → (readOps [x] fs).map (fun l => (w, false, l)) = (insn [.word w, x]).map insKV) (h1o : insn [.word w, .open_] = none) (t : List Sign) :
    readIns (.word w :: t) = (insn (.word w :: t)).map insKV := by
  rcases t with _ | ⟨x, _ | ⟨y, _ | ⟨z, r⟩⟩⟩
  · rw [ins_plain f1 (fun _ h => by cases h)]
    exact h0
  · by_cases ho : x = .open_
    · subst ho
      rw [ins_paren f1, if_neg f2, h1o]
      rfl
    · rw [ins_plain f1 (fun _ h => ho (List.cons.inj h).1)]
      exact h1 x ho
  · by_cases ho : x = .open_
    · subst ho
      rw [ins_paren f1, if_neg f2, insn_open, bin_none f2]
      rfl
    · rw [ins_plain f1 (fun _ h => ho (List.cons.inj h).1), ops_len (by simp; omega)]
      by_cases hy : ∃ z, y = .num z
      · obtain ⟨z, rfl⟩ := hy
        rw [insn_three _ _ _ ho, if_neg hc.1, if_neg hc.2.1, if_neg hc.2.2.1, if_neg hc.2.2.2]
        rfl
      · rw [insn_three_no _ _ _ ho fun z e => hy ⟨z, e⟩]
        rfl
  · rw [insn_more]
    by_cases ho : x = .open_
    · subst ho
      rw [ins_paren f1, if_neg f2]
      rfl
    · rw [ins_plain f1 (fun _ h => ho (List.cons.inj h).1), ops_len (by simp; omega)]
      rfl
/-- a name with two operands -/
theorem ins_pair {w : Bytes} {f g : Bytes} (f1 : forms.lookup w = some [f, g]) (f2 : ¬ putOff.contains w = true) (h0 : insn [.word w] = none) (h1 : ∀ x, insn [.word w, x] = none)
    (h2 : ∀ x y, x ≠ .open_ → (readOps [x, y] [f, g]).map (fun l => (w, false, l)) = (insn [.word w, x, y]).map insKV) (t : List Sign) :
    readIns (.word w :: t) = (insn (.word w :: t)).map insKV := by
  rcases t with _ | ⟨x, _ | ⟨y, _ | ⟨z, r⟩⟩⟩
  · rw [ins_plain f1 (fun _ h => by cases h), ops_len (by simp), h0]
    rfl
  · rw [h1]
    by_cases ho : x = .open_
    · subst ho
      rw [ins_paren f1, if_neg f2]
      rfl
    · rw [ins_plain f1 (fun _ h => ho (List.cons.inj h).1), ops_len (by simp)]
      rfl
  · by_cases ho : x = .open_
    · subst ho
      rw [ins_paren f1, if_neg f2, insn_open, bin_none f2]
      rfl
    · rw [ins_plain f1 (fun _ h => ho (List.cons.inj h).1)]
      exact h2 x y ho
  · rw [insn_more]
    by_cases ho : x = .open_
    · subst ho
      rw [ins_paren f1, if_neg f2]
      rfl
    · rw [ins_plain f1 (fun _ h => ho (List.cons.inj h).1), ops_len (by simp)]
      rfl
theorem h0_none {w f : Bytes} (h : insn [.word w] = none) : (readOps [] [f]).map (fun l => (w, false, l)) = (insn [.word w]).map insKV := by
  rw [h]
  rfl
theorem ins_LD (t : List Sign) : readIns (.word (txt "LD") :: t) = (insn (.word (txt "LD") :: t)).map insKV := by
  refine ins_other (fs := [txt "any"]) (by decide +kernel) (by decide +kernel) (by decide) (by decide +kernel) (h0_none (by decide +kernel)) (fun x _ => ?_) (by decide +kernel) t
  rw [ops_one, readOp_any, insn_two, if_pos rfl]
  cases operand x <;> rfl
theorem ins_LDN (t : List Sign) : readIns (.word (txt "LDN") :: t) = (insn (.word (txt "LDN") :: t)).map insKV := by
  refine ins_other (fs := [txt "bit"]) (by decide +kernel) (by decide +kernel) (by decide) (by decide +kernel) (h0_none (by decide +kernel)) (fun x _ => ?_) (by decide +kernel) t
  rw [ops_one, readOp_bit, insn_two, if_neg (by decide +kernel), if_pos rfl]
  cases bitSign x <;> rfl
theorem ins_ST (t : List Sign) : readIns (.word (txt "ST") :: t) = (insn (.word (txt "ST") :: t)).map insKV := by
  refine ins_other (fs := [txt "stored"]) (by decide +kernel) (by decide +kernel) (by decide) (by decide +kernel) (h0_none (by decide +kernel)) (fun x _ => ?_) (by decide +kernel) t
  rw [ops_one, readOp_stored, insn_two, if_neg (by decide +kernel), if_neg (by decide +kernel), if_pos rfl]
  cases target x with
  | some b => rfl
  | none => cases named x 87 256 <;> rfl
theorem ins_STN (t : List Sign) : readIns (.word (txt "STN") :: t) = (insn (.word (txt "STN") :: t)).map insKV := by
  refine ins_other (fs := [txt "stored bit"]) (by decide +kernel) (by decide +kernel) (by decide) (by decide +kernel) (h0_none (by decide +kernel)) (fun x _ => ?_) (by decide +kernel) t
  rw [ops_one, readOp_sbit, insn_two, if_neg (by decide +kernel), if_neg (by decide +kernel), if_neg (by decide +kernel), if_pos rfl]
  cases target x <;> rfl
theorem ins_S (t : List Sign) : readIns (.word (txt "S") :: t) = (insn (.word (txt "S") :: t)).map insKV := by
  refine ins_other (fs := [txt "stored bit"]) (by decide +kernel) (by decide +kernel) (by decide) (by decide +kernel) (h0_none (by decide +kernel)) (fun x _ => ?_) (by decide +kernel) t
  rw [ops_one, readOp_sbit, insn_two, if_neg (by decide +kernel), if_neg (by decide +kernel), if_neg (by decide +kernel), if_neg (by decide +kernel), if_pos rfl]
  cases target x <;> rfl
theorem ins_R (t : List Sign) : readIns (.word (txt "R") :: t) = (insn (.word (txt "R") :: t)).map insKV := by
  refine ins_other (fs := [txt "stored bit"]) (by decide +kernel) (by decide +kernel) (by decide) (by decide +kernel) (h0_none (by decide +kernel)) (fun x _ => ?_) (by decide +kernel) t
  rw [ops_one, readOp_sbit, insn_two, if_neg (by decide +kernel), if_neg (by decide +kernel), if_neg (by decide +kernel), if_neg (by decide +kernel), if_neg (by decide +kernel), if_pos rfl]
  cases target x <;> rfl
theorem two_jump (x : Sign) {w : Bytes} (h : w = txt "JMP" ∨ w = txt "JMPC" ∨ w = txt "JMPCN") : insn [.word w, x] = match x with
      | .word l => some (.jmp (if w = txt "JMP" then .always else if w = txt "JMPC" then .one else .zero) l)
      | _ => none := by
  have ne : w ≠ txt "LD" ∧ w ≠ txt "LDN" ∧ w ≠ txt "ST" ∧ w ≠ txt "STN" ∧ w ≠ txt "S" ∧ w ≠ txt "R" := by
    rcases h with rfl | rfl | rfl <;> decide +kernel
  rw [insn_two, if_neg ne.1, if_neg ne.2.1, if_neg ne.2.2.1, if_neg ne.2.2.2.1, if_neg ne.2.2.2.2.1, if_neg ne.2.2.2.2.2, if_pos h]
  all_goals (cases x <;> rfl)
theorem ins_JMP (t : List Sign) : readIns (.word (txt "JMP") :: t) = (insn (.word (txt "JMP") :: t)).map insKV := by
  refine ins_other (fs := [txt "label"]) (by decide +kernel) (by decide +kernel) (by decide) (by decide +kernel) (h0_none (by decide +kernel)) (fun x _ => ?_) (by decide +kernel) t
  rw [ops_one, readOp_label, two_jump x (.inl rfl), if_pos rfl]
  cases x <;> rfl
theorem ins_JMPC (t : List Sign) : readIns (.word (txt "JMPC") :: t) = (insn (.word (txt "JMPC") :: t)).map insKV := by
  refine ins_other (fs := [txt "label"]) (by decide +kernel) (by decide +kernel) (by decide) (by decide +kernel) (h0_none (by decide +kernel)) (fun x _ => ?_) (by decide +kernel) t
  rw [ops_one, readOp_label, two_jump x (.inr (.inl rfl)), if_neg (by decide +kernel), if_pos rfl]
  cases x <;> rfl
theorem ins_JMPCN (t : List Sign) : readIns (.word (txt "JMPCN") :: t) = (insn (.word (txt "JMPCN") :: t)).map insKV := by
  refine ins_other (fs := [txt "label"]) (by decide +kernel) (by decide +kernel) (by decide) (by decide +kernel) (h0_none (by decide +kernel)) (fun x _ => ?_) (by decide +kernel) t
  rw [ops_one, readOp_label, two_jump x (.inr (.inr rfl)), if_neg (by decide +kernel), if_neg (by decide +kernel)]
  cases x <;> rfl
theorem ins_RC (t : List Sign) : readIns (.word (txt "RC") :: t) = (insn (.word (txt "RC") :: t)).map insKV := by
  refine ins_other (fs := [txt "counter"]) (by decide +kernel) (by decide +kernel) (by decide) (by decide +kernel) (h0_none (by decide +kernel)) (fun x _ => ?_) (by decide +kernel) t
  rw [ops_one, readOp_counter, insn_two, if_neg (by decide +kernel), if_neg (by decide +kernel), if_neg (by decide +kernel), if_neg (by decide +kernel), if_neg (by decide +kernel), if_neg (by decide +kernel), if_neg (by decide +kernel), if_pos rfl]
  cases named x 67 32 <;> rfl
theorem ins_UP (t : List Sign) : readIns (.word (txt "UP") :: t) = (insn (.word (txt "UP") :: t)).map insKV := by
  refine ins_other (fs := [txt "edge"]) (by decide +kernel) (by decide +kernel) (by decide) (by decide +kernel) (h0_none (by decide +kernel)) (fun x _ => ?_) (by decide +kernel) t
  rw [ops_one, readOp_edge, insn_two, if_neg (by decide +kernel), if_neg (by decide +kernel), if_neg (by decide +kernel), if_neg (by decide +kernel), if_neg (by decide +kernel), if_neg (by decide +kernel), if_neg (by decide +kernel), if_neg (by decide +kernel), if_pos rfl]
  cases named x 77 256 <;> rfl
theorem ins_DOWN (t : List Sign) : readIns (.word (txt "DOWN") :: t) = (insn (.word (txt "DOWN") :: t)).map insKV := by
  refine ins_other (fs := [txt "edge"]) (by decide +kernel) (by decide +kernel) (by decide) (by decide +kernel) (h0_none (by decide +kernel)) (fun x _ => ?_) (by decide +kernel) t
  rw [ops_one, readOp_edge, insn_two, if_neg (by decide +kernel), if_neg (by decide +kernel), if_neg (by decide +kernel), if_neg (by decide +kernel), if_neg (by decide +kernel), if_neg (by decide +kernel), if_neg (by decide +kernel), if_neg (by decide +kernel), if_neg (by decide +kernel), if_pos rfl]
  cases named x 77 256 <;> rfl
/-- words that name none of insn_two's, for a word that is no bin -/
theorem two_none {w : Bytes} (h : w = txt "NOT" ∨ w = txt "RET" ∨ w = txt "RETC" ∨ w = txt ")" ∨ w = txt "TON" ∨ w = txt "TOF" ∨ w = txt "TP" ∨ w = txt "CTU") (x : Sign) : insn [.word w, x] = none := by
  have ne : (w ≠ txt "LD" ∧ w ≠ txt "LDN" ∧ w ≠ txt "ST" ∧ w ≠ txt "STN" ∧ w ≠ txt "S" ∧ w ≠ txt "R") ∧ ¬ (w = txt "JMP" ∨ w = txt "JMPC" ∨ w = txt "JMPCN") ∧ w ≠ txt "RC" ∧ w ≠ txt "UP" ∧ w ≠ txt "DOWN" ∧ binOf w = none := by
    rcases h with rfl | rfl | rfl | rfl | rfl | rfl | rfl | rfl <;> decide +kernel
  obtain ⟨⟨n1, n2, n3, n4, n5, n6⟩, n7, n8, n9, n10, n11⟩ := ne
  rw [insn_two, if_neg n1, if_neg n2, if_neg n3, if_neg n4, if_neg n5, if_neg n6, if_neg n7, if_neg n8, if_neg n9, if_neg n10, n11]
  rfl
theorem ins_bare {w : Bytes} (h : w = txt "NOT" ∨ w = txt "RET" ∨ w = txt "RETC") (t : List Sign) : readIns (.word w :: t) = (insn (.word w :: t)).map insKV := by
  have h' : w = txt "NOT" ∨ w = txt "RET" ∨ w = txt "RETC" ∨ w = txt ")" ∨ w = txt "TON" ∨ w = txt "TOF" ∨ w = txt "TP" ∨ w = txt "CTU" := by
    rcases h with h | h | h
    · exact .inl h
    · exact .inr (.inl h)
    · exact .inr (.inr (.inl h))
  have fs : forms.lookup w = some [] ∧ ¬ putOff.contains w = true ∧ (¬ w = txt "CTU" ∧ ¬ w = txt "TON" ∧ ¬ w = txt "TOF" ∧ ¬ w = txt "TP") := by
    rcases h with rfl | rfl | rfl <;> decide +kernel
  refine ins_other (fs := []) fs.1 fs.2.1 (by decide) fs.2.2 ?_ (fun x _ => ?_) (two_none h' _) t
  · rcases h with rfl | rfl | rfl
    · rw [insn_one, if_pos rfl]
      rfl
    · rw [insn_one, if_neg (by decide +kernel), if_pos rfl]
      rfl
    · rw [insn_one, if_neg (by decide +kernel), if_neg (by decide +kernel), if_pos rfl]
      rfl
  · rw [two_none h', ops_len (by simp)]
    rfl
theorem ins_CTU (t : List Sign) : readIns (.word (txt "CTU") :: t) = (insn (.word (txt "CTU") :: t)).map insKV := by
  refine ins_pair (f := txt "counter") (g := txt "number") (by decide +kernel) (by decide +kernel) (by decide +kernel) (two_none (by simp)) (fun x y ho => ?_) t
  rw [ops_two, readOp_counter, readOp_number]
  by_cases hy : ∃ z, y = .num z
  · obtain ⟨z, rfl⟩ := hy
    rw [insn_three _ _ _ ho, if_pos rfl]
    cases named x 67 32 <;> rfl
  · rw [insn_three_no _ _ _ ho fun z e => hy ⟨z, e⟩]
    cases y with
    | num z => exact absurd ⟨z, rfl⟩ hy
    | _ => cases named x 67 32 <;> rfl
theorem ins_timer {w : Bytes} {k : Timer} (h : w = txt "TON" ∨ w = txt "TOF" ∨ w = txt "TP")
    (hk : (if w = txt "TON" then some Timer.ton else if w = txt "TOF" then some .tof else if w = txt "TP" then some .tp else none) = some k) (hn : ∀ t v, insKV (.timer k t v) = (w, false, [E (.inl (.t t)), (txt "number", .inr (v : Int))])) (t : List Sign) :
    readIns (.word w :: t) = (insn (.word w :: t)).map insKV := by
  have fs : forms.lookup w = some [txt "timer", txt "duration"] ∧ ¬ putOff.contains w = true ∧ insn [.word w] = none ∧ ¬ w = txt "CTU" := by
    rcases h with rfl | rfl | rfl <;> decide +kernel
  have h' : w = txt "NOT" ∨ w = txt "RET" ∨ w = txt "RETC" ∨ w = txt ")" ∨ w = txt "TON" ∨ w = txt "TOF" ∨ w = txt "TP" ∨ w = txt "CTU" := by
    rcases h with h | h | h
    · exact .inr (.inr (.inr (.inr (.inl h))))
    · exact .inr (.inr (.inr (.inr (.inr (.inl h)))))
    · exact .inr (.inr (.inr (.inr (.inr (.inr (.inl h))))))
  refine ins_pair fs.1 fs.2.1 fs.2.2.1 (two_none h') (fun x y ho => ?_) t
  rw [ops_two, readOp_timer, readOp_duration]
  by_cases hy : ∃ z, y = .num z
  · obtain ⟨z, rfl⟩ := hy
    rw [insn_three _ _ _ ho, if_neg fs.2.2.2, hk]
    cases named x 84 32 with
    | none => rfl
    | some n =>
      by_cases c : 0 ≤ z
      · show ((if 0 ≤ z then some ((txt "number", Sum.inr z) : Opd) else none).map fun p => [E (.inl (.t n)), p]).map _ = (if 0 ≤ z then some (Insn.timer k n z.toNat) else none).map insKV
        rw [if_pos c, if_pos c]
        show some (w, false, [E (.inl (.t n)), (txt "number", Sum.inr z)]) = some (insKV (.timer k n z.toNat))
        rw [hn, Int.toNat_of_nonneg c]
      · show ((if 0 ≤ z then some ((txt "number", Sum.inr z) : Opd) else none).map fun p => [E (.inl (.t n)), p]).map _ = (if 0 ≤ z then some (Insn.timer k n z.toNat) else none).map insKV
        rw [if_neg c, if_neg c]
        rfl
  · rw [insn_three_no _ _ _ ho fun z e => hy ⟨z, e⟩]
    cases y with
    | num z => exact absurd ⟨z, rfl⟩ hy
    | _ => cases named x 84 32 <;> rfl
theorem ins_no {s : Sign} {t : List Sign} {n : Bytes} (h : textOf s = some n) (hl : forms.lookup n = none) : readIns (s :: t) = none := by
  simp only [readIns, h, hl, Option.bind_some, Option.bind_none]
/-- **the program reads an instruction as the specification does** -/
theorem ins_is (ss : List Sign) (h : ∀ w r, ss = .word w :: r → w ≠ txt ")") (hne : ss ≠ []) : readIns ss = (insn ss).map insKV := by
  cases ss with
  | nil => exact absurd rfl hne
  | cons s t =>
    cases s with
    | num z => rfl
    | colon =>
      rw [ins_no (n := [58]) rfl (by decide +kernel)]
      rfl
    | open_ =>
      rw [ins_no (n := [40]) rfl (by decide +kernel)]
      rfl
    | close =>
      have e : forms.lookup ([41] : Bytes) = some [] := by decide +kernel
      cases t with
      | nil =>
        simp only [readIns, textOf, e, Option.bind_some]
        rfl
      | cons x r =>
        have o : ¬ putOff.contains ([41] : Bytes) = true := by decide +kernel
        cases x with
        | open_ =>
          simp only [readIns, textOf, e, Option.bind_some, if_neg o]
          rfl
        | _ =>
          simp only [readIns, textOf, e, Option.bind_some]
          rfl
    | word w =>
      have hw := h w t rfl
      cases q : forms.lookup w with
      | none =>
        rw [ins_unknown q, ins_no (n := w) rfl q]
        rfl
      | some fs =>
        have m : w ∈ forms.map (·.1) := by
          have key : ∀ (l : List (Bytes × List Bytes)), l.lookup w = some fs → w ∈ l.map (·.1) := by
            intro l
            induction l with
            | nil => intro h; cases h
            | cons p r ih =>
              intro h
              rw [List.lookup_cons] at h
              rw [List.map_cons]
              cases c : (w == p.1) with
              | true =>
                rw [beq_iff_eq.mp c]
                exact List.mem_cons_self
              | false =>
                rw [c] at h
                exact List.mem_cons_of_mem _ (ih h)
          exact key _ q
        unfold forms at m
        simp only [List.map_cons, List.map_nil, List.mem_cons, List.not_mem_nil, or_false] at m
        rcases m with rfl | rfl | rfl | rfl | rfl | rfl | rfl | rfl | rfl | rfl | rfl | rfl | rfl | rfl | rfl | rfl | rfl | rfl | rfl | rfl | rfl | rfl | rfl | rfl | rfl | rfl | rfl | rfl | rfl | rfl | rfl | rfl | rfl | rfl | rfl | rfl | rfl
        · exact ins_LD t
        · exact ins_LDN t
        · exact ins_ST t
        · exact ins_STN t
        · exact ins_S t
        · exact ins_R t
        · exact ins_bare (.inl rfl) t
        · exact ins_bin (.logic .and false) t
        · exact ins_bin (.logic .or false) t
        · exact ins_bin (.logic .xor false) t
        · exact ins_bin (.logic .and true) t
        · exact ins_bin (.logic .or true) t
        · exact ins_bin (.logic .xor true) t
        · exact ins_bin (.arith .add) t
        · exact ins_bin (.arith .sub) t
        · exact ins_bin (.arith .mul) t
        · exact ins_bin (.arith .div) t
        · exact ins_bin (.arith .mod) t
        · exact ins_bin (.cmp .gt) t
        · exact ins_bin (.cmp .ge) t
        · exact ins_bin (.cmp .eq) t
        · exact ins_bin (.cmp .ne) t
        · exact ins_bin (.cmp .le) t
        · exact ins_bin (.cmp .lt) t
        · exact absurd rfl hw
        · exact ins_JMP t
        · exact ins_JMPC t
        · exact ins_JMPCN t
        · exact ins_bare (.inr (.inl rfl)) t
        · exact ins_bare (.inr (.inr rfl)) t
        · exact ins_timer (k := .ton) (.inl rfl) (by decide +kernel) (fun _ _ => rfl) t
        · exact ins_timer (k := .tof) (.inr (.inl rfl)) (by decide +kernel) (fun _ _ => rfl) t
        · exact ins_timer (k := .tp) (.inr (.inr rfl)) (by decide +kernel) (fun _ _ => rfl) t
        · exact ins_CTU t
        · exact ins_RC t
        · exact ins_UP t
        · exact ins_DOWN t
end SlM
set_option linter.all false
set_option maxRecDepth 8000
set_option maxHeartbeats 1000000
namespace SlM
open Sf47
/-! ### lines as the program has them: a label or none, an instruction or none -/
abbrev PLine := Option Bytes × Option Insn
def insOf (s : List Sign) : Option (Option Insn) := if s = [] then some none else (insn s).map some
def readLine (b : Bytes) : Option PLine := if 255 < b.length then none else (sg b).bind fun s => match s with
  | .word w :: .colon :: r => if taken w = true then none else (insOf r).map fun i => (some w, i)
  | _ => (insOf s).map fun i => (none, i)
def hasInside : Option Insn → Bool
  | none => true
  | some i => inside i
/-- how many are open behind the line -/
def depthStep (pl : PLine) (d : Nat) : Option Nat := if d ≠ 0 ∧ (pl.1.isSome = true ∨ hasInside pl.2 = false) then none else match pl.2 with
  | some (.open_ _ _) => if 8 < d + 1 then none else some (d + 1)
  | some .close => if d = 0 then none else some (d - 1)
  | _ => some d
def stepTo (p : Prog) (k : Nat) (pl : PLine) (d : Nat) : Prog :=
  { code := p.code ++ (match pl.2 with | some i => [(k, i)] | none => []), labels := p.labels ++ (match pl.1 with | some w => [(w, p.code.length, k)] | none => []), depth := d }
def dOf (i : Insn) (d : Nat) : Nat := match i with
  | .open_ _ _ => d + 1
  | .close => d - 1
  | _ => d
theorem insn_eq (p : Prog) (k : Nat) (s : List Sign) : p.insn k s = if s = [] then some p else (insn s).bind fun i =>
    if (i = .close ∧ p.depth = 0) ∨ 8 < dOf i p.depth ∨ (p.depth ≠ 0 ∧ inside i = false) ∨ 4096 ≤ p.code.length then none else some { p with code := p.code ++ [(k, i)], depth := dOf i p.depth } := rfl
theorem depth_none (lab : Option Bytes) (d : Nat) : depthStep (lab, none) d = if d ≠ 0 ∧ lab.isSome = true then none else some d := by
  unfold depthStep
  by_cases c : d ≠ 0 ∧ lab.isSome = true
  · rw [if_pos c, if_pos ⟨c.1, .inl c.2⟩]
  · rw [if_neg c, if_neg (fun q => c ⟨q.1, q.2.elim id fun z => by cases z⟩)]
theorem depth_some (lab : Option Bytes) (i : Insn) (d : Nat) (h8 : d ≤ 8) : depthStep (lab, some i) d = if d ≠ 0 ∧ (lab.isSome = true ∨ inside i = false) then none else if i = .close ∧ d = 0 then none else if 8 < dOf i d then none else some (dOf i d) := by
  unfold depthStep
  by_cases c : d ≠ 0 ∧ (lab.isSome = true ∨ inside i = false)
  · have c' : d ≠ 0 ∧ ((lab, some i).1.isSome = true ∨ hasInside (lab, some i).2 = false) := c
    rw [if_pos c, if_pos c']
  · have c' : ¬ (d ≠ 0 ∧ ((lab, some i).1.isSome = true ∨ hasInside (lab, some i).2 = false)) := c
    rw [if_neg c, if_neg c']
    cases i with
    | open_ o x =>
      show (if 8 < d + 1 then none else some (d + 1)) = if (Insn.open_ o x = .close ∧ d = 0) then none else if 8 < d + 1 then none else some (d + 1)
      rw [if_neg (c := Insn.open_ o x = .close ∧ d = 0) (fun q => by cases q.1)]
    | close =>
      show (if d = 0 then none else some (d - 1)) = if (Insn.close = .close ∧ d = 0) then none else if 8 < d - 1 then none else some (d - 1)
      by_cases m : d = 0
      · rw [if_pos m, if_pos ⟨rfl, m⟩]
      · rw [if_neg m, if_neg (fun q => m q.2), if_neg (by omega)]
    | _ =>
      show some d = if (_ = Insn.close ∧ d = 0) then none else if 8 < d then none else some d
      rw [if_neg (fun q => by cases q.1), if_neg (by omega)]
theorem insn_is (p : Prog) (k : Nat) (s : List Sign) (h8 : p.depth ≤ 8) : p.insn k s = (insOf s).bind fun i => (depthStep (none, i) p.depth).bind fun d => if i.isSome = true ∧ 4096 ≤ p.code.length then none else some (stepTo p k (none, i) d) := by
  rw [insn_eq]
  unfold insOf
  by_cases e : s = []
  · rw [if_pos e, if_pos e, Option.bind_some, depth_none, if_neg (fun q => by cases q.2), Option.bind_some, if_neg (fun q => by cases q.1)]
    unfold stepTo
    simp
  · rw [if_neg e, if_neg e]
    cases q : insn s with
    | none => rfl
    | some i =>
      rw [Option.bind_some, Option.map_some, Option.bind_some, depth_some none i p.depth h8]
      by_cases c3 : p.depth ≠ 0 ∧ inside i = false
      · rw [if_pos (.inr (.inr (.inl c3))), if_pos ⟨c3.1, .inr c3.2⟩]
        rfl
      rw [if_neg (c := p.depth ≠ 0 ∧ ((none : Option Bytes).isSome = true ∨ inside i = false)) (fun q => c3 ⟨q.1, q.2.elim (fun z => by cases z) id⟩)]
      by_cases c1 : i = .close ∧ p.depth = 0
      · rw [if_pos (.inl c1), if_pos c1]
        rfl
      rw [if_neg c1]
      by_cases c2 : 8 < dOf i p.depth
      · rw [if_pos (.inr (.inl c2)), if_pos c2]
        rfl
      rw [if_neg c2, Option.bind_some]
      by_cases c4 : 4096 ≤ p.code.length
      · rw [if_pos (.inr (.inr (.inr c4))), if_pos ⟨rfl, c4⟩]
      · rw [if_neg (fun q => q.elim c1 fun q => q.elim c2 fun q => q.elim c3 c4), if_neg (fun q => c4 q.2)]
        unfold stepTo
        simp
theorem insn_nonword {s : Sign} {r : List Sign} (h : ∀ w, s ≠ .word w) : insn (s :: .colon :: r) = none := by
  cases s with
  | word w => exact absurd rfl (h w)
  | _ => rfl
theorem line_is (p : Prog) (k : Nat) (b : Bytes) (h8 : p.depth ≤ 8) : p.line k b = (readLine b).bind fun pl => (depthStep pl p.depth).bind fun d => if pl.2.isSome = true ∧ 4096 ≤ p.code.length then none else some (stepTo p k pl d) := by
  rw [line_sg]
  unfold readLine
  by_cases l : 255 < b.length
  · rw [if_pos l, if_pos l]
    rfl
  rw [if_neg l, if_neg l]
  cases sg b with
  | none => rfl
  | some s =>
    have plain : ∀ s : List Sign, p.insn k s = ((insOf s).map fun i => ((none, i) : PLine)).bind fun pl => (depthStep pl p.depth).bind fun d => if pl.2.isSome = true ∧ 4096 ≤ p.code.length then none else some (stepTo p k pl d) := fun s => by
      rw [insn_is p k s h8]
      cases insOf s <;> rfl
    have lab : ∀ (w : Bytes) (r : List Sign), ((p.label k w).bind fun q => q.insn k r) = (if taken w = true then none else (insOf r).map fun i => ((some w, i) : PLine)).bind fun pl => (depthStep pl p.depth).bind fun d => if pl.2.isSome = true ∧ 4096 ≤ p.code.length then none else some (stepTo p k pl d) := fun w r => by
      unfold Prog.label
      by_cases t : taken w = true
      · rw [if_pos (.inl t), if_pos t]
        rfl
      rw [if_neg t]
      by_cases d0 : p.depth ≠ 0
      · rw [if_pos (.inr d0)]
        cases insOf r with
        | none => rfl
        | some i =>
          show none = (depthStep (some w, i) p.depth).bind _
          unfold depthStep
          rw [if_pos ⟨d0, .inl rfl⟩]
          rfl
      · rw [if_neg (fun q => q.elim t d0)]
        show Prog.insn { p with labels := p.labels ++ [(w, p.code.length, k)] } k r = _
        rw [insn_is { p with labels := p.labels ++ [(w, p.code.length, k)] } k r h8]
        cases insOf r with
        | none => rfl
        | some i =>
          show (depthStep (none, i) p.depth).bind _ = (depthStep (some w, i) p.depth).bind _
          have e : depthStep (some w, i) p.depth = depthStep (none, i) p.depth := by
            cases i with
            | none => rw [depth_none, depth_none, if_neg (fun q => d0 q.1), if_neg (fun q => d0 q.1)]
            | some i => rw [depth_some _ _ _ h8, depth_some _ _ _ h8, if_neg (c := p.depth ≠ 0 ∧ _) (fun q => d0 q.1), if_neg (c := p.depth ≠ 0 ∧ _) (fun q => d0 q.1)]
          rw [e]
          cases depthStep (none, i) p.depth with
          | none => rfl
          | some d =>
            show (if _ then none else some (stepTo _ k (none, i) d)) = if _ then none else some (stepTo p k (some w, i) d)
            have e2 : stepTo { p with labels := p.labels ++ [(w, p.code.length, k)] } k (none, i) d = stepTo p k (some w, i) d := by
              unfold stepTo
              simp
            rw [e2]
    show (match s with
      | .word w :: .colon :: r => (p.label k w).bind fun q => q.insn k r
      | _ => p.insn k s) = (match s with
      | .word w :: .colon :: r => if taken w = true then none else (insOf r).map fun i => ((some w, i) : PLine)
      | _ => (insOf s).map fun i => ((none, i) : PLine)).bind _
    split
    · exact lab _ _
    · exact plain s
/-! ### the lines read so far, as the specification's program -/
def progOf : List PLine → List Nat → Prog
  | pls, ds => (pls.zip ds).foldl (fun (q : Prog × Nat) x => (stepTo q.1 q.2 x.1 x.2, q.2 + 1)) (⟨[], [], 0⟩, 1) |>.1
/-- the code, the labels of lines from line k on, n instructions being before -/
def codeOf : Nat → List PLine → List (Nat × Insn)
  | _, [] => []
  | k, pl :: r => (match pl.2 with | some i => [(k, i)] | none => []) ++ codeOf (k + 1) r
def labsOf : Nat → Nat → List PLine → List (Bytes × Nat × Nat)
  | _, _, [] => []
  | k, n, pl :: r => (match pl.1 with | some w => [(w, n, k)] | none => []) ++ labsOf (k + 1) (n + (match pl.2 with | some _ => 1 | none => 0)) r
theorem code_snoc : ∀ (l : List PLine) (k : Nat) (pl : PLine), codeOf k (l ++ [pl]) = codeOf k l ++ (match pl.2 with | some i => [(k + l.length, i)] | none => [])
  | [], k, pl => by
    show codeOf k [pl] = _
    unfold codeOf codeOf
    simp
  | a :: r, k, pl => by
    show (match a.2 with | some i => [(k, i)] | none => []) ++ codeOf (k + 1) (r ++ [pl]) = ((match a.2 with | some i => [(k, i)] | none => []) ++ codeOf (k + 1) r) ++ _
    rw [code_snoc r (k + 1) pl, List.append_assoc, List.length_cons, show k + 1 + r.length = k + (r.length + 1) from by omega]
theorem code_len : ∀ (l : List PLine) (k : Nat), (codeOf k l).length = (l.filter fun pl => pl.2.isSome).length
  | [], _ => rfl
  | a :: r, k => by
    obtain ⟨x, i⟩ := a
    show ((match i with | some i => [(k, i)] | none => []) ++ codeOf (k + 1) r).length = _
    rw [List.length_append, code_len r, List.filter_cons]
    cases i with
    | none => simp
    | some j => simp; omega
theorem labs_snoc : ∀ (l : List PLine) (k n : Nat) (pl : PLine), labsOf k n (l ++ [pl]) = labsOf k n l ++ (match pl.1 with | some w => [(w, n + (codeOf k l).length, k + l.length)] | none => [])
  | [], k, n, pl => by
    show labsOf k n [pl] = _
    unfold labsOf labsOf codeOf
    simp
  | a :: r, k, n, pl => by
    obtain ⟨x, i⟩ := a
    show (match x with | some w => [(w, n, k)] | none => []) ++ labsOf (k + 1) (n + (match i with | some _ => 1 | none => 0)) (r ++ [pl]) = ((match x with | some w => [(w, n, k)] | none => []) ++ labsOf (k + 1) (n + (match i with | some _ => 1 | none => 0)) r) ++ _
    rw [labs_snoc r, List.append_assoc]
    have e : (codeOf k ((x, i) :: r)).length = (match i with | some _ => 1 | none => 0) + (codeOf (k + 1) r).length := by
      show ((match i with | some i => [(k, i)] | none => []) ++ codeOf (k + 1) r).length = _
      rw [List.length_append]
      cases i <;> rfl
    rw [e, List.length_cons, show k + 1 + r.length = k + (r.length + 1) from by omega, Nat.add_assoc]
/-- the program of these lines, d being open -/
def prog (pls : List PLine) (d : Nat) : Prog := ⟨codeOf 1 pls, labsOf 1 0 pls, d⟩
theorem step_prog (pls : List PLine) (d : Nat) (pl : PLine) (d' : Nat) : stepTo (prog pls d) (pls.length + 1) pl d' = prog (pls ++ [pl]) d' := by
  unfold stepTo prog
  simp only
  rw [code_snoc, labs_snoc, Nat.zero_add, Nat.add_comm 1]
theorem fm_congr {α β : Type} {f g : α → Option β} : ∀ {l : List α}, (∀ x ∈ l, f x = g x) → l.filterMap f = l.filterMap g
  | [], _ => rfl
  | a :: r, h => by
    rw [List.filterMap_cons, List.filterMap_cons, h a List.mem_cons_self, fm_congr fun x hx => h x (List.mem_cons_of_mem _ hx)]
/-! ### labels that were before, jumps to none -/
def names (pls : List PLine) : List Bytes := pls.filterMap fun pl => pl.1
theorem labs_names : ∀ (l : List PLine) (k n : Nat), (labsOf k n l).map (·.1) = names l
  | [], _, _ => rfl
  | (x, i) :: r, k, n => by
    show ((match x with | some w => [(w, n, k)] | none => []) ++ labsOf (k + 1) _ r).map (·.1) = _
    rw [List.map_append, labs_names r]
    unfold names
    rw [List.filterMap_cons]
    cases x <;> rfl
/-- the i-th line is wrong -/
def Bad (pls : List PLine) (i : Nat) : Prop := ∃ x j, pls[i]? = some (x, j) ∧ ((∃ w, x = some w ∧ w ∈ names (pls.take i)) ∨ ∃ k l, j = some (.jmp k l) ∧ l ∉ names pls)
def dups (L : List (Bytes × Nat × Nat)) : List Nat := (List.range L.length).filterMap fun i => (L[i]?).bind fun x => if (L.take i).any (fun y => y.1 == x.1) = true then some x.2.2 else none
theorem dups_snoc (L : List (Bytes × Nat × Nat)) (x : Bytes × Nat × Nat) : dups (L ++ [x]) = dups L ++ (if L.any (fun y => y.1 == x.1) = true then [x.2.2] else []) := by
  unfold dups
  rw [List.length_append, List.length_singleton, List.range_succ, List.filterMap_append]
  congr 1
  · refine fm_congr fun i hi => ?_
    have hi : i < L.length := List.mem_range.mp hi
    rw [List.getElem?_append_left hi, List.take_append_of_le_length (Nat.le_of_lt hi)]
  · rw [List.filterMap_cons, List.filterMap_nil, List.getElem?_append_right (Nat.le_refl _), Nat.sub_self, List.take_left]
    rw [show (([x] : List (Bytes × Nat × Nat))[0]?) = some x from rfl, Option.bind_some]
    by_cases c : (L.any fun y => y.1 == x.1) = true
    · rw [if_pos c, if_pos c]
    · rw [if_neg c, if_neg c]
def lost (all : List Bytes) (c : List (Nat × Insn)) : List Nat := c.filterMap fun x => match x.2 with
  | .jmp _ l => if l ∈ all then none else some x.1
  | _ => none
theorem place_none (p : Prog) (w : Bytes) : (p.place w).isNone = true ↔ w ∉ p.labels.map (·.1) := by
  unfold Prog.place
  rw [Option.isNone_map, Option.isNone_iff_eq_none, List.find?_eq_none]
  constructor
  · intro h m
    obtain ⟨x, hx, e⟩ := List.mem_map.mp m
    exact h x hx (by simp [e])
  · intro h x hx e
    exact h (List.mem_map.mpr ⟨x, hx, by simpa using e⟩)
theorem wrong_eq (p : Prog) : p.wrong = dups p.labels ++ lost (p.labels.map (·.1)) p.code := by
  unfold Prog.wrong lost
  congr 1
  refine fm_congr fun x _ => ?_
  obtain ⟨n, i⟩ := x
  cases i with
  | jmp k l =>
    show (if (p.place l).isNone = true then some n else none) = if l ∈ p.labels.map (·.1) then none else some n
    by_cases m : l ∈ p.labels.map (·.1)
    · rw [if_pos m, if_neg (fun q => (place_none p l).mp q m)]
    · rw [if_neg m, if_pos ((place_none p l).mpr m)]
  | _ => rfl
/-- of the first n lines -/
theorem wrong_first (pls : List PLine) : ∀ n, n ≤ pls.length → ∀ x, x ∈ dups (labsOf 1 0 (pls.take n)) ++ lost (names pls) (codeOf 1 (pls.take n)) ↔ ∃ i, i < n ∧ x = i + 1 ∧ Bad pls i
  | 0, _, x => by
    constructor
    · intro h
      cases h
    · rintro ⟨i, hi, _⟩
      exact absurd hi (Nat.not_lt_zero i)
  | n + 1, hn, x => by
    have ih := wrong_first pls n (Nat.le_of_succ_le hn) x
    have hlt : n < pls.length := hn
    obtain ⟨lab, j, gn⟩ : ∃ lab j, pls[n]? = some ((lab, j) : PLine) := ⟨pls[n].1, pls[n].2, by rw [List.getElem?_eq_getElem hlt]⟩
    have tk : pls.take (n + 1) = pls.take n ++ [(lab, j)] := by rw [List.take_succ, gn]; rfl
    have ln : (pls.take n).length = n := by rw [List.length_take]; omega
    rw [tk, labs_snoc, code_snoc, ln, Nat.zero_add, Nat.add_comm 1 n]
    have c1 : x ∈ dups (labsOf 1 0 (pls.take n) ++ (match (lab, j).1 with | some w => [(w, (codeOf 1 (pls.take n)).length, n + 1)] | none => [])) ↔ x ∈ dups (labsOf 1 0 (pls.take n)) ∨ (x = n + 1 ∧ ∃ w, lab = some w ∧ w ∈ names (pls.take n)) := by
      cases lab with
      | none => simp
      | some w =>
        show x ∈ dups (_ ++ [_]) ↔ _
        rw [dups_snoc, List.mem_append]
        have e : ((labsOf 1 0 (pls.take n)).any fun y => y.1 == w) = true ↔ w ∈ names (pls.take n) := by
          rw [← labs_names (pls.take n) 1 0, List.any_eq_true, List.mem_map]
          constructor
          · rintro ⟨y, hy, q⟩
            exact ⟨y, hy, by simpa using q⟩
          · rintro ⟨y, hy, q⟩
            exact ⟨y, hy, by simpa using q⟩
        by_cases m : w ∈ names (pls.take n)
        · rw [if_pos (e.mpr m)]
          simp [m]
        · rw [if_neg (fun q => m (e.mp q))]
          simp [m]
    have c2 : x ∈ lost (names pls) (codeOf 1 (pls.take n) ++ (match (lab, j).2 with | some i => [(n + 1, i)] | none => [])) ↔ x ∈ lost (names pls) (codeOf 1 (pls.take n)) ∨ (x = n + 1 ∧ ∃ k l, j = some (.jmp k l) ∧ l ∉ names pls) := by
      unfold lost
      rw [List.filterMap_append, List.mem_append]
      cases j with
      | none => simp
      | some i =>
        cases i with
        | jmp k l =>
          by_cases m : l ∈ names pls
          · simp [m]
          · simp [m]
            exact or_congr Iff.rfl ⟨fun e => ⟨e, k, l, ⟨rfl, rfl⟩, m⟩, fun h => h.1⟩
        | _ => simp
    rw [List.mem_append, c1, c2]
    rw [List.mem_append] at ih
    have bn : Bad pls n ↔ ((∃ w, lab = some w ∧ w ∈ names (pls.take n)) ∨ ∃ k l, j = some (.jmp k l) ∧ l ∉ names pls) := by
      constructor
      · rintro ⟨x', j', e, h⟩
        rw [gn] at e
        cases e
        exact h
      · intro h
        exact ⟨lab, j, gn, h⟩
    constructor
    · rintro ((h | ⟨e, h⟩) | (h | ⟨e, h⟩))
      · obtain ⟨i, hi, r⟩ := ih.mp (.inl h)
        exact ⟨i, Nat.lt_succ_of_lt hi, r⟩
      · exact ⟨n, Nat.lt_succ_self n, e, bn.mpr (.inl h)⟩
      · obtain ⟨i, hi, r⟩ := ih.mp (.inr h)
        exact ⟨i, Nat.lt_succ_of_lt hi, r⟩
      · exact ⟨n, Nat.lt_succ_self n, e, bn.mpr (.inr h)⟩
    · rintro ⟨i, hi, e, b⟩
      by_cases c : i = n
      · subst c
        rcases bn.mp b with h | h
        · exact .inl (.inr ⟨e, h⟩)
        · exact .inr (.inr ⟨e, h⟩)
      · rcases ih.mpr ⟨i, by omega, e, b⟩ with h | h
        · exact .inl (.inl h)
        · exact .inr (.inl h)
theorem wrong_is (pls : List PLine) (d : Nat) (x : Nat) : x ∈ (prog pls d).wrong ↔ ∃ i, i < pls.length ∧ x = i + 1 ∧ Bad pls i := by
  rw [wrong_eq]
  have h := wrong_first pls pls.length (Nat.le_refl _) x
  rw [List.take_length] at h
  show x ∈ dups (labsOf 1 0 pls) ++ lost ((labsOf 1 0 pls).map (·.1)) (codeOf 1 pls) ↔ _
  rw [labs_names]
  exact h
theorem least : ∀ (r : List Nat) (x : Nat), r.foldl min x ∈ x :: r ∧ ∀ y ∈ x :: r, r.foldl min x ≤ y
  | [], x => ⟨List.mem_cons_self, fun y hy => by rw [List.mem_singleton.mp hy]; exact Nat.le_refl _⟩
  | a :: r, x => by
    obtain ⟨h1, h2⟩ := least r (min x a)
    rw [List.foldl_cons]
    have hm : r.foldl min (min x a) ≤ min x a := h2 _ List.mem_cons_self
    refine ⟨?_, fun y hy => ?_⟩
    · rcases List.mem_cons.mp h1 with e | e
      · rw [e]
        rcases Nat.le_total x a with q | q
        · rw [Nat.min_eq_left q]
          exact List.mem_cons_self
        · rw [Nat.min_eq_right q]
          exact List.mem_cons_of_mem _ List.mem_cons_self
      · exact List.mem_cons_of_mem _ (List.mem_cons_of_mem _ e)
    · rcases List.mem_cons.mp hy with e | hy
      · rw [e]
        exact Nat.le_trans hm (Nat.min_le_left _ _)
      · rcases List.mem_cons.mp hy with e | hy
        · rw [e]
          exact Nat.le_trans hm (Nat.min_le_right _ _)
        · exact h2 y (List.mem_cons_of_mem _ hy)
/-- the first wrong line is the one that is told -/
theorem told_bad {pls : List PLine} {d i : Nat} (hi : i < pls.length) (b : Bad pls i) (hf : ∀ j, j < i → ¬ Bad pls j) : ∃ x r, (prog pls d).wrong = x :: r ∧ r.foldl min x = i + 1 := by
  have m : i + 1 ∈ (prog pls d).wrong := (wrong_is pls d _).mpr ⟨i, hi, rfl, b⟩
  cases q : (prog pls d).wrong with
  | nil =>
    rw [q] at m
    cases m
  | cons x r =>
    rw [q] at m
    obtain ⟨l1, l2⟩ := least r x
    rw [← q] at l1
    obtain ⟨j, hj, e, bj⟩ := (wrong_is pls d _).mp l1
    refine ⟨x, r, rfl, ?_⟩
    have h1 := l2 _ m
    by_cases c : j < i
    · exact absurd bj (hf j c)
    · omega
theorem told_none {pls : List PLine} {d : Nat} (h : ∀ j, j < pls.length → ¬ Bad pls j) : (prog pls d).wrong = [] := by
  cases q : (prog pls d).wrong with
  | nil => rfl
  | cons x r =>
    have m : x ∈ (prog pls d).wrong := by rw [q]; exact List.mem_cons_self
    obtain ⟨i, hi, _, b⟩ := (wrong_is pls d x).mp m
    exact absurd b (h i hi)
end SlM
set_option Elab.async false
set_option linter.all false
set_option maxRecDepth 100000
set_option maxHeartbeats 4000000
namespace Sl
open PySem PySem.Spec PyProof.Rows L2 SlM
/-! ### texts of bytes -/
abbrev Bytes := Sf47.Bytes
def S (b : Bytes) : Str := ⟨(b.map UInt8.toNat).toArray⟩
theorem S_list (b : Bytes) : (S b).cps.toList = b.map UInt8.toNat := rfl
theorem S_len (b : Bytes) : (S b).length = b.length := by simp [S, Str.length]
theorem toNat_inj {a b : UInt8} (h : a.toNat = b.toNat) : a = b := by
  have := congrArg UInt8.ofNat h
  rwa [UInt8.ofNat_toNat, UInt8.ofNat_toNat] at this
theorem map_inj {a b : Bytes} (h : a.map UInt8.toNat = b.map UInt8.toNat) : a = b := (List.map_inj_right fun _ _ => toNat_inj).mp h
theorem S_inj {a b : Bytes} (h : S a = S b) : a = b := map_inj (by rw [← S_list, h, S_list])
theorem S_iff {a b : Bytes} : S a = S b ↔ a = b := ⟨S_inj, fun h => by rw [h]⟩
theorem S_txt (s : String) (h : (Str.ofString s).cps.toList = (Sf47.txt s).map UInt8.toNat := by decide +kernel) : Str.ofString s = S (Sf47.txt s) := Str.ext' (Array.toList_inj.mp (by rw [S_list]; exact h))
def letters : Str := Str.ofString "ABCDEFGHIJKLMNOPQRSTUVWXYZabcdefghijklmnopqrstuvwxyz_"
def digits : Str := Str.ofString "0123456789"
def marks : Str := Str.ofString ":()"
def blanks : Str := Str.ofString " \t"
theorem in_letters (c : UInt8) : decide (c.toNat ∈ letters.cps.toList) = Sf47.begins c := by
  have q := all_bytes (p := fun c => decide (c.toNat ∈ letters.cps.toList) == Sf47.begins c) (by decide +kernel) c
  exact beq_iff_eq.mp q
theorem in_digits (c : UInt8) : decide (c.toNat ∈ digits.cps.toList) = Sf47.digit c := by
  have q := all_bytes (p := fun c => decide (c.toNat ∈ digits.cps.toList) == Sf47.digit c) (by decide +kernel) c
  exact beq_iff_eq.mp q
theorem in_both (c : UInt8) : decide (c.toNat ∈ (letters ++ digits).cps.toList) = Sf47.inWord c := by
  have q := all_bytes (p := fun c => decide (c.toNat ∈ (letters ++ digits).cps.toList) == Sf47.inWord c) (by decide +kernel) c
  exact beq_iff_eq.mp q
theorem in_marks (c : UInt8) : decide (c.toNat ∈ marks.cps.toList) = mark c := by
  have q := all_bytes (p := fun c => decide (c.toNat ∈ marks.cps.toList) == mark c) (by decide +kernel) c
  exact beq_iff_eq.mp q
theorem in_blanks (c : UInt8) : decide (c.toNat ∈ blanks.cps.toList) = Sf47.blank c := by
  have q := all_bytes (p := fun c => decide (c.toNat ∈ blanks.cps.toList) == Sf47.blank c) (by decide +kernel) c
  exact beq_iff_eq.mp q
theorem S_at {b : Bytes} {k : Nat} {c : UInt8} (h : b[k]? = some c) : atI (S b).cps.toList (k : Int) = some c.toNat := by
  refine atI_nat ?_
  rw [S_list, List.getElem?_map, h]
  rfl
/-! ### a def of the top, and what it promises -/
def Src (K : PySem.W.Frag) (mg : Str → Option Value) (name : Str) (st : Stmt) : Prop := ∃ f fd, mg name = some (.ref f) ∧ Fun K name name st f fd
def Df (P : Program) (w : World) (K : PySem.W.Frag) (mg : Str → Option Value) (base : Heap) (CX : CXT) (k : Nat) (name : Str) (ps : List Str) (sp : Sp) : Prop :=
  ∃ f fd, mg name = some (.ref f) ∧ PySem.W.keepIn K (.ref f) = true ∧ Binds K fd ps [] ∧ FnOk P w K mg base CX k f fd ps sp
section
variable {P : Program} {w : World} {K : PySem.W.Frag} {mg : Str → Option Value} {base : Heap}
/-- a def's body, walked: what okN and its like ask for -/
abbrev Walked (CX : CXT) (P : Program) (w : World) (K : PySem.W.Frag) (mg : Str → Option Value) (base : Heap) (N : List Str) (qual : Str) (st : Stmt) (f : Addr) (k : Nat) (sp : Sp) : Prop :=
  ∀ (cdv : Value) (A : Around) (outer : List Env) (s : Shared) (H : Hp) (vs : List V) (Q : VK) (E : XK), Room k (A.deeper (envOfC qual (defScope st) s.heap.objs.size f cdv)) → sp vs H Q E → ∃ t, PSs (cxOf CX P w K mg base N qual (defScope st) f cdv A outer s H E) (defBody st) t ∧ t { nx := fun _ H' => Q .non H', rt := Q } (start N vs) H
theorem ok_def {CX : CXT} {x qual : Str} {st : Stmt} {f : Addr} {fd : FuncData} {N ps : List Str} {k : Nat} {sp : Sp} (F : Fun K x qual st f fd) (S : FnScope N ps (defScope st)) (len : ∀ vs H Q E, sp vs H Q E → vs.length = ps.length) (hbody : Walked CX P w K mg base N qual st f k sp) : FnOk P w K mg base CX (k + 1) f fd ps sp := by
  obtain ⟨_, _, _, _, _, _, cdv, _, _, rfl, at_, code⟩ := F.ex
  exact fn_of at_ code S len (hbody cdv)
theorem okN {x qual : Str} {st : Stmt} {f : Addr} {fd : FuncData} {N ps : List Str} {k : Nat} {sp : Sp} (F : Fun K x qual st f fd) (S : FnScope N ps (defScope st)) (len : ∀ vs H Q E, sp vs H Q E → vs.length = ps.length) (hbody : Walked (L2N.CX P w) P w K mg base N qual st f k sp) : FnOk P w K mg base (L2N.CX P w) (k + 1) f fd ps sp := ok_def F S len hbody
theorem Src.df {name : Str} {st : Stmt} {ps : List Str} {CX : CXT} {k : Nat} {sp : Sp} (s : Src K mg name st)
    (h : ∀ (kV doc pm : Value) (an : Option Addr) (cdv ct : Value) (us : List Value), us.length = ps.length → bindArgs (PySem.W.fnOf name name (defArgs st) (defBody st) (defScope st) .none kV doc pm an cdv ct) ⟨us, []⟩ = pure (ps.zip us))
    (ok : ∀ f fd, Fun K name name st f fd → FnOk P w K mg base CX k f fd ps sp) : Df P w K mg base CX k name ps sp := by
  obtain ⟨f, fd, hm, F⟩ := s
  exact ⟨f, fd, hm, F.kp, F.binds h, ok f fd F⟩
end
/-- the i-th statement of the text -/
def top (i : Nat) : Stmt := PySem.Challenge.pw_scanlist_s01_check.main.body.getD i (.Pass ⟨0, 0, 0, 0⟩)
abbrev s_rows_of : Stmt := top 13
abbrev s_text_of : Stmt := top 14
abbrev s_signs_of : Stmt := top 15
abbrev s_end_of_sign : Stmt := top 16
abbrev s_end_of_number : Stmt := top 17
abbrev s_end_of_run : Stmt := top 18
abbrev s_sign_of : Stmt := top 19
abbrev s_word_of : Stmt := top 20
abbrev s_number_of : Stmt := top 21
abbrev s_is_word : Stmt := top 22
abbrev s_read_operand : Stmt := top 27
abbrev s_label_of : Stmt := top 28
abbrev s_value_of : Stmt := top 29
abbrev s_named_value : Stmt := top 30
abbrev s_is_plain_number : Stmt := top 31
abbrev s_line_init : Stmt := inClass (top 35) 0
abbrev s_read_line : Stmt := top 36
abbrev s_read_label : Stmt := top 37
abbrev s_read_instruction : Stmt := top 38
abbrev s_read_put_off : Stmt := top 39
abbrev s_read_operands : Stmt := top 40
abbrev s_read_program : Stmt := top 47
abbrev s_read_lines : Stmt := top 48
abbrev s_depth_behind : Stmt := top 49
abbrev s_instructions_with : Stmt := top 50
abbrev s_refuse_wrong_labels : Stmt := top 51
abbrev s_labels_of : Stmt := top 52
abbrev s_check : Stmt := top 54
/-- a text of the top -/
def TxtC (mg : Str → Option Value) (x : Str) (v : V) : Prop := ∃ u, mg x = some u ∧ RelV v u
theorem if_t {c : Bool} {A B : Prop} (hc : c = true) (h : A) : if c = true then A else B := by
  rw [if_pos hc]
  exact h
theorem if_f {c : Bool} {A B : Prop} (hc : c = false) (h : B) : if c = true then A else B := by
  rw [hc, if_neg Bool.false_ne_true]
  exact h
end Sl
set_option Elab.async false
set_option linter.all false
set_option maxRecDepth 100000
set_option maxHeartbeats 4000000
namespace Sl
open PySem PySem.Spec PyProof.Rows L2 SlM
section
variable {P : Program} {w : World} {K : PySem.W.Frag} {mg : Str → Option Value} {base : Heap}
/-! ### end_of_run -/
def spRun : Sp := fun vs H Q _ => ∃ (b : Bytes) (k : Nat) (m : Str) (p : UInt8 → Bool), vs = [.str (S b), .int k, .str m] ∧ k ≤ b.length ∧ b.length ≤ 1000 ∧ (∀ c, decide (c.toNat ∈ m.cps.toList) = p c) ∧ Q (.int ((k + runLen p (b.drop k) : Nat) : Int)) H
theorem sc_run : FnScope ["row", "start", "members", "end"] ["row", "start", "members"] (defScope s_end_of_run) := ⟨rfl, rfl, rfl, by decide +kernel, rfl, by decide +kernel, by decide +kernel⟩
theorem drop_at {b : Bytes} {j : Nat} {c : UInt8} (h : b[j]? = some c) : b.drop j = c :: b.drop (j + 1) := by
  obtain ⟨hl, e⟩ := List.getElem?_eq_some_iff.mp h
  rw [List.drop_eq_getElem_cons hl, e]
theorem ok_run {f : Addr} {fd : FuncData} (F : Fun K "end_of_run" "end_of_run" s_end_of_run f fd) (hl : mg "len" = none) : FnOk P w K mg base CX0 1 f fd ["row", "start", "members"] spRun := by
  refine F.ok sc_run (fun vs H Q E h => ?_) (fun cdv A outer s H vs Q E hr h => ?_)
  · obtain ⟨b, k, m, p, rfl, _⟩ := h
    rfl
  · refine ⟨_, pss_cons (ps_set (i := 3) sc_run.nd rfl (Or.inl rfl) (pv 1))
      (pss_cons (ps_while PassesOwn.never (PW.pt (pw_and (pt_cmpR op_lt (pv 3) (pe_callB call_len_str (by rfl) hl PySem.boot_len (pa_cons (pv 0) pa_nil)) (nomark _))
          (pw_and1 (pt_cmpR op_in_sign (pe_ix ix_str (pv 0) (pv 3) (fun _ _ => rfl)) (pv 2) (by rfl)))))
        (pss_one (ps_aug (i := 3) sc_run.nd rfl (Or.inl rfl) pe_int ip_add)))
      (pss_one (ps_ret (pv 3)))), ?_⟩
    obtain ⟨b, k, m, p, rfl, hk, hb, hp, q⟩ := h
    have hz : (S b).length ≤ sizeLine := by rw [S_len]; exact Nat.le_trans hb (by decide)
    refine ⟨_, rfl, ?_⟩
    refine while_by (fun σ H' => H' = H ∧ ∃ j : Nat, σ = [some (.str (S b)), some (.int k), some (.str m), some (.int j)] ∧ j ≤ b.length ∧ j + runLen p (b.drop j) = k + runLen p (b.drop k)) (fun σ _ => match σ with | [_, _, _, some (.int j)] => b.length - j.toNat | _ => 0) ⟨rfl, k, rfl, hk, rfl⟩ ?_ ?_
    · rintro σ H' ⟨rfl, j, rfl, hj, e⟩
      refine ⟨_, rfl, _, rfl, _, rfl, hz, _, _, rfl, rfl, _, rfl, ?_⟩
      rw [S_len]
      refine ite2 (fun c => ?_) (fun c => ?_)
      · have c : j < b.length := by have := of_decide_eq_true c; omega
        obtain ⟨ch, hch⟩ : ∃ ch, b[j]? = some ch := ⟨b[j], List.getElem?_eq_getElem c⟩
        have dj := drop_at hch
        refine ⟨_, rfl, _, rfl, _, _, ch.toNat, rfl, rfl, hz, S_at hch, _, rfl, _, _, rfl, rfl, _, rfl, ?_⟩
        rw [hp]
        refine ite2 (fun c2 => ?_) (fun c2 => ?_)
        · refine ⟨_, rfl, _, _, rfl, rfl, ⟨rfl, j + 1, rfl, c, ?_⟩, ?_⟩
          · rw [dj, run_cons c2] at e
            omega
          · show b.length - ((j : Int) + 1).toNat < b.length - (j : Int).toNat
            omega
        · rw [dj, run_zero c2] at e
          refine ⟨_, rfl, ?_⟩
          rw [← e] at q
          exact q
      · have c : ¬ j < b.length := fun z => c (decide_eq_true (by omega))
        have e0 : b.drop j = [] := List.drop_eq_nil_of_le (by omega)
        rw [e0] at e
        refine ⟨_, rfl, ?_⟩
        rw [← e] at q
        exact q
    · rintro σ H1 Q1 Q2 hq ⟨v1, e1, v2, e2, x, e3, hz', i, j, e4, e5, k, e6, h⟩
      refine ⟨v1, e1, v2, e2, x, e3, hz', i, j, e4, e5, k, e6, ?_⟩
      split at h
      · rename_i c
        rw [if_pos c]
        obtain ⟨v1, e1, v2, e2, x, e3, hz', i, j, e4, e5, k, e6, k2, e7, k3, e8, k4, e9, h⟩ := h
        exact ⟨v1, e1, v2, e2, x, e3, hz', i, j, e4, e5, k, e6, k2, e7, k3, e8, k4, e9, hq _ _ h⟩
      · rename_i c
        rw [if_neg c]
        exact hq _ _ h
theorem sign_is {c k : UInt8} {s : String} (h : Str.ofString s = S [k]) : decide (V.str ⟨#[c.toNat]⟩ = V.str (Str.ofString s)) = decide (c = k) := by
  rw [h]
  have e : (⟨#[c.toNat]⟩ : Str) = S [c] := rfl
  rw [e]
  by_cases q : c = k
  · rw [q, decide_eq_true rfl, decide_eq_true rfl]
  · rw [decide_eq_false q]
    refine decide_eq_false fun z => q ?_
    have z := S_inj (V.str.inj z)
    exact (List.cons.inj z).1
theorem int_eq (i j : Int) : decide (V.int i = V.int j) = decide (i = j) := by
  by_cases q : i = j
  · rw [q, decide_eq_true rfl, decide_eq_true rfl]
  · rw [decide_eq_false q]
    exact decide_eq_false fun z => q (V.int.inj z)
/-! ### end_of_number -/
variable {CU : Addr}
/-- what the text says of Unreadable -/
structure UnTxt (K : PySem.W.Frag) (mg : Str → Option Value) (CU : Addr) : Prop where
  gF : mg "Unreadable" = some (.ref CU)
  xF : PySem.W.excIn K CU [.type "Exception", .type "BaseException", .type "object"] "Exception.__new__" = true
  kF : PySem.W.keepIn K (.ref CU) = true
  bF : PySem.W.subIn K (.ref CU) (.type "BaseException") = some true
  tF : PySem.W.typeIn K (.ref CU) = some (.type "type")
  eF : PySem.W.exmOne K (.ref CU) (.ref CU) = some true
def spNum (CU : Addr) : Sp := fun vs H Q E => ∃ (b : Bytes) (k : Nat), vs = [.str (S b), .int k] ∧ k < b.length ∧ b.length ≤ 1000 ∧ (endNum (b.drop k) = none → E (.ref CU) none H) ∧ (∀ n, endNum (b.drop k) = some n → Q (.int ((k + n : Nat) : Int)) H)
theorem sc_num : FnScope ["row", "start", "first_digit", "end"] ["row", "start"] (defScope s_end_of_number) := ⟨rfl, rfl, rfl, by decide +kernel, rfl, by decide +kernel, by decide +kernel⟩
theorem ok_num {f : Addr} {fd : FuncData} (F : Fun K "end_of_number" "end_of_number" s_end_of_number f fd) (U : UnTxt K mg CU) (cD : TxtC mg "DIGITS" (.str digits)) (R : Df P w K mg base CX0 1 "end_of_run" ["row", "start", "members"] spRun) :
    FnOk P w K mg base (L2N.CX P w) 2 f fd ["row", "start"] (spNum CU) := by
  obtain ⟨fR, fdR, mR, kR, bR, FR⟩ := R
  obtain ⟨uD, mD, rD⟩ := cD
  refine okN F sc_num (fun vs H Q E h => ?_) (fun cdv A outer s H vs Q E hr h => ?_)
  · obtain ⟨b, k, rfl, _⟩ := h
    rfl
  · refine ⟨_, pss_cons (ps_set (i := 2) sc_num.nd rfl (Or.inl rfl) (pe_ifExp (pt_cmpR op_eq (pe_ix ix_str (pv 0) (pv 1) (fun _ _ => rfl)) pe_str (nomark _)) (pe_op op_add (pv 1) pe_int) (pv 1)))
      (pss_cons (ps_set (i := 3) sc_num.nd rfl (Or.inl rfl) (pe_call FR hr (by rfl) mR kR bR .nil pass0 (pa_cons (pv 0) (pa_cons (pv 2) (pa_cons (pe_glob (by rfl) mD rD) pa_nil)))))
      (pss_cons (ps_if (pt_cmpR op_eq (pv 3) (pv 2) (nomark _)) (pss_one (L2N.ps_raise rfl (L2N.takes_of rfl rfl rfl rfl) (pmk_bare PySem.F.excBase_Exception U.xF U.gF U.kF (raises_own U.bF U.tF) (by rfl)))) pss_nil)
      (pss_one (ps_ret (pv 3))))), ?_⟩
    obtain ⟨b, k, rfl, hk, hb, kN, kS⟩ := h
    have hz : (S b).length ≤ sizeLine := by rw [S_len]; exact Nat.le_trans hb (by decide)
    obtain ⟨ch, hch⟩ : ∃ ch, b[k]? = some ch := ⟨b[k], List.getElem?_eq_getElem hk⟩
    have dk := drop_at hch
    rw [dk, endNum_cons] at kN kS
    refine ⟨_, rfl, _, rfl, _, _, ch.toNat, rfl, rfl, hz, S_at hch, rfl, _, rfl, ?_⟩
    rw [sign_is (k := 45) (by decide +kernel)]
    have rest : ∀ j : Nat, j ≤ b.length → (runLen Sf47.digit (b.drop j) = 0 → E (.ref CU) none H) → (¬ runLen Sf47.digit (b.drop j) = 0 → Q (.int ((j + runLen Sf47.digit (b.drop j) : Nat) : Int)) H) →
        ∃ (b' : Bytes) (k' : Nat) (m : Str) (p : UInt8 → Bool), [V.str (S b), V.int (j : Nat), V.str digits] = [.str (S b'), .int k', .str m] ∧ k' ≤ b'.length ∧ b'.length ≤ 1000 ∧ (∀ c, decide (c.toNat ∈ m.cps.toList) = p c) ∧
          (∃ v, [some (V.str (S b)), some (V.int k), some (V.int (j : Nat)), some (V.int ((k' + runLen p (b'.drop k') : Nat) : Int))][3]? = some (some v) ∧ ∃ u, [some (V.str (S b)), some (V.int k), some (V.int (j : Nat)), some (V.int ((k' + runLen p (b'.drop k') : Nat) : Int))][2]? = some (some u) ∧ scal v u = true ∧ ∃ c, V.bl (decide (v = u)) = V.bl c ∧
            if c = true then E (.ref CU) none H else ∃ v, [some (V.str (S b)), some (V.int k), some (V.int (j : Nat)), some (V.int ((k' + runLen p (b'.drop k') : Nat) : Int))][3]? = some (some v) ∧ Q v H) := by
      intro j hj h1 h2
      refine ⟨b, j, digits, Sf47.digit, rfl, hj, hb, in_digits, _, rfl, _, rfl, rfl, _, rfl, ?_⟩
      rw [int_eq]
      refine ite2 (fun c => h1 ?_) (fun c => ⟨_, rfl, h2 fun z => c (decide_eq_true (by omega))⟩)
      have := of_decide_eq_true c
      omega
    refine ite2 (fun c => ?_) (fun c => ?_)
    · have c := of_decide_eq_true c
      rw [if_pos c] at kN kS
      refine ⟨_, rfl, _, _, rfl, rfl, _, rfl, _, rfl, ?_⟩
      exact rest (k + 1) hk (fun z => kN (if_pos z)) (fun z => by
        have := kS _ (if_neg z)
        rw [← Nat.add_assoc] at this
        exact this)
    · have c : ¬ ch = 45 := fun z => c (decide_eq_true z)
      rw [if_neg c] at kN kS
      rw [← dk] at kN kS
      refine ⟨_, rfl, _, rfl, _, rfl, ?_⟩
      exact rest k (Nat.le_of_lt hk) (fun z => kN (if_pos z)) (fun z => kS _ (if_neg z))
end
end Sl
set_option Elab.async false
set_option linter.all false
set_option maxRecDepth 100000
set_option maxHeartbeats 4000000
namespace Sl
open PySem PySem.Spec PyProof.Rows L2 SlM
section
variable {P : Program} {w : World} {K : PySem.W.Frag} {mg : Str → Option Value} {base : Heap} {CU : Addr}
/-! ### end_of_sign -/
def spSignEnd (CU : Addr) : Sp := fun vs H Q E => ∃ (b : Bytes) (k : Nat), vs = [.str (S b), .int k] ∧ k < b.length ∧ b.length ≤ 1000 ∧ (endLen (b.drop k) = none → E (.ref CU) none H) ∧ (∀ n, endLen (b.drop k) = some n → Q (.int ((k + n : Nat) : Int)) H)
theorem sc_send : FnScope ["row", "start"] ["row", "start"] (defScope s_end_of_sign) := ⟨rfl, rfl, rfl, by decide +kernel, rfl, by decide +kernel, by decide +kernel⟩
theorem ok_send {f : Addr} {fd : FuncData} (F : Fun K "end_of_sign" "end_of_sign" s_end_of_sign f fd) (cL : TxtC mg "LETTERS" (.str letters)) (cD : TxtC mg "DIGITS" (.str digits)) (cM : TxtC mg "MARKS" (.str marks))
    (R : Df P w K mg base CX0 1 "end_of_run" ["row", "start", "members"] spRun) (N : Df P w K mg base (L2N.CX P w) 2 "end_of_number" ["row", "start"] (spNum CU)) :
    FnOk P w K mg base (L2N.CX P w) 3 f fd ["row", "start"] (spSignEnd CU) := by
  obtain ⟨fR, fdR, mR, kR, bR, FR⟩ := R
  obtain ⟨fN, fdN, mN, kN, bN, FN⟩ := N
  obtain ⟨uD, mD, rD⟩ := cD
  obtain ⟨uL, mL, rL⟩ := cL
  obtain ⟨uM, mM, rM⟩ := cM
  refine okN F sc_send (fun vs H Q E h => ?_) (fun cdv A outer s H vs Q E hr h => ?_)
  · obtain ⟨b, k, rfl, _⟩ := h
    rfl
  · refine ⟨_, pss_cons (ps_if (pt_cmpR op_in_sign (pe_ix ix_str (pv 0) (pv 1) (fun _ _ => rfl)) (pe_glob (by rfl) mM rM) (by rfl)) (pss_one (ps_ret (pe_op op_add (pv 1) pe_int))) pss_nil)
      (pss_cons (ps_if (pt_cmpR op_in_sign (pe_ix ix_str (pv 0) (pv 1) (fun _ _ => rfl)) (pe_glob (by rfl) mL rL) (by rfl))
        (pss_one (ps_ret (pe_call FR (hr.mono (by decide)) (by rfl) mR kR bR .nil pass0 (pa_cons (pv 0) (pa_cons (pv 1) (pa_cons (pe_op op_add_str (pe_glob (by rfl) mL rL) (pe_glob (by rfl) mD rD)) pa_nil)))))) pss_nil)
      (pss_one (ps_ret (pe_callS FN hr (by rfl) mN kN bN (fun σ => L2N.passAt (L2N.takes_of rfl rfl rfl rfl) σ) (pa_cons (pv 0) (pa_cons (pv 1) pa_nil)))))), ?_⟩
    obtain ⟨b, k, rfl, hk, hb, kF, kS⟩ := h
    have hz : (S b).length ≤ sizeLine := by rw [S_len]; exact Nat.le_trans hb (by decide)
    obtain ⟨ch, hch⟩ : ∃ ch, b[k]? = some ch := ⟨b[k], List.getElem?_eq_getElem hk⟩
    have dk := drop_at hch
    rw [dk, endLen_cons] at kF kS
    refine ⟨_, rfl, _, rfl, _, _, ch.toNat, rfl, rfl, hz, S_at hch, _, _, rfl, rfl, _, rfl, ?_⟩
    rw [in_marks]
    refine ite2 (fun c => ?_) (fun c => ?_)
    · exact ⟨_, rfl, _, _, rfl, rfl, kS 1 (if_pos c)⟩
    · rw [if_neg c] at kF kS
      refine ⟨_, rfl, _, rfl, _, _, ch.toNat, rfl, rfl, hz, S_at hch, _, _, rfl, rfl, _, rfl, ?_⟩
      rw [in_letters]
      refine ite2 (fun c => ?_) (fun c => ?_)
      · rw [if_pos c] at kS
        have q := kS _ rfl
        rw [← dk] at q
        exact ⟨_, rfl, _, rfl, _, _, rfl, rfl, by decide, b, k, _, Sf47.inWord, rfl, Nat.le_of_lt hk, hb, in_both, q⟩
      · rw [if_neg c] at kF kS
        rw [← dk] at kF kS
        exact ⟨_, rfl, _, rfl, b, k, rfl, hk, hb, kF, kS⟩
/-! ### word_of, number_of, sign_of -/
def spWordOf (CU : Addr) : Sp := fun vs H Q E => ∃ t : Bytes, vs = [.str (S t)] ∧ t.length ≤ 1000 ∧ (15 < t.length → E (.ref CU) none H) ∧ (¬ 15 < t.length → Q (.str (S t)) H)
theorem sc_text : FnScope ["text"] ["text"] (defScope s_word_of) := ⟨rfl, rfl, rfl, by decide +kernel, rfl, by decide +kernel, by decide +kernel⟩
theorem ok_wordOf {f : Addr} {fd : FuncData} (F : Fun K "word_of" "word_of" s_word_of f fd) (U : UnTxt K mg CU) (hl : mg "len" = none) (cW : TxtC mg "WORD_LIMIT" (.int 15)) : FnOk P w K mg base (L2N.CX P w) 1 f fd ["text"] (spWordOf CU) := by
  obtain ⟨uW, mW, rW⟩ := cW
  refine okN F sc_text (fun vs H Q E h => ?_) (fun cdv A outer s H vs Q E hr h => ?_)
  · obtain ⟨t, rfl, _⟩ := h
    rfl
  · refine ⟨_, pss_cons (ps_if (pt_cmpR op_gt (pe_callB call_len_str (by rfl) hl PySem.boot_len (pa_cons (pv 0) pa_nil)) (pe_glob (by rfl) mW rW) (nomark _))
        (pss_one (L2N.ps_raise rfl (L2N.takes_of rfl rfl rfl rfl) (pmk_bare PySem.F.excBase_Exception U.xF U.gF U.kF (raises_own U.bF U.tF) (by rfl)))) pss_nil)
      (pss_one (ps_ret (pv 0))), ?_⟩
    obtain ⟨t, rfl, ht, kF, kS⟩ := h
    have hz : (S t).length ≤ sizeLine := by rw [S_len]; exact Nat.le_trans ht (by decide)
    refine ⟨_, rfl, _, rfl, hz, _, _, rfl, rfl, _, rfl, ?_⟩
    rw [S_len]
    refine ite2 (fun c => kF ?_) (fun c => ⟨_, rfl, kS fun z => c (decide_eq_true (by omega))⟩)
    have := of_decide_eq_true c
    omega
/-- a text that int takes -/
def NumText (t : Bytes) : Prop := ∃ d : Bytes, d ≠ [] ∧ d.all Sf47.digit = true ∧ (t = d ∨ t = 45 :: d)
theorem digits_val (d : Bytes) : PySem.NumText.digitsVal (d.map UInt8.toNat) = Sf47.number d := by
  unfold PySem.NumText.digitsVal Sf47.number
  have key : ∀ (l : Bytes) (a : Nat), (l.map UInt8.toNat).foldl (fun acc c => acc * 10 + (c - 48)) a = l.foldl (fun n c => 10 * n + (c.toNat - 48)) a := by
    intro l
    induction l with
    | nil => intro a; rfl
    | cons c r ih =>
      intro a
      rw [List.map_cons, List.foldl_cons, List.foldl_cons, ih, Nat.mul_comm]
  exact key d 0
theorem all_digits {d : Bytes} (h : d.all Sf47.digit = true) : PySem.NumText.AllDigits (d.map UInt8.toNat) := fun c hc => by
  obtain ⟨x, hx, rfl⟩ := List.mem_map.mp hc
  have q := List.all_eq_true.mp h x hx
  unfold Sf47.digit at q
  simp only [Bool.and_eq_true, decide_eq_true_eq] at q
  exact q
theorem digit_head {d : Bytes} (h : d.all Sf47.digit = true) (hn : d ≠ []) : numVal d = (Sf47.number d : Int) := by
  cases d with
  | nil => exact absurd rfl hn
  | cons c r =>
    rw [List.all_cons] at h
    simp only [Bool.and_eq_true] at h
    rw [numVal_cons, if_neg (digit_ne h.1)]
theorem int_text {t : Bytes} (h : NumText t) (hl : t.length ≤ 640) : intText? (S t) = some (numVal t) := by
  obtain ⟨d, hn, ha, e⟩ := h
  have hne : d.map UInt8.toNat ≠ [] := fun z => hn (List.map_eq_nil_iff.mp z)
  have hlen : (S t).length ≤ 4300 := by rw [S_len]; omega
  rcases e with rfl | rfl
  · rw [PySem.intText_digits (x := S t) (all_digits ha) hne hlen, digit_head ha hn]
    exact congrArg some (congrArg Int.ofNat (digits_val t))
  · rw [PySem.intText_neg (x := S (45 :: d)) (cs := d.map UInt8.toNat) rfl (all_digits ha) hne hlen, digits_val]
    rfl
def spNumberOf (CU : Addr) : Sp := fun vs H Q E => ∃ t : Bytes, vs = [.str (S t)] ∧ t.length ≤ 600 ∧ NumText t ∧ (¬ Sf47.fits (numVal t) = true → E (.ref CU) none H) ∧ (Sf47.fits (numVal t) = true → Q (.int (numVal t)) H)
theorem sc_nof : FnScope ["text", "number"] ["text"] (defScope s_number_of) := ⟨rfl, rfl, rfl, by decide +kernel, rfl, by decide +kernel, by decide +kernel⟩
theorem fits_iff (z : Int) : Sf47.fits z = true ↔ ¬ (z < -2147483648) ∧ ¬ (2147483648 ≤ z) := by
  unfold Sf47.fits
  simp only [Bool.and_eq_true, decide_eq_true_eq]
  omega
theorem ok_numberOf {f : Addr} {fd : FuncData} (F : Fun K "number_of" "number_of" s_number_of f fd) (U : UnTxt K mg CU) (hi : mg "int" = none) (cB : TxtC mg "NUMBER_BOUND" (.int 2147483648)) : FnOk P w K mg base (L2N.CX P w) 1 f fd ["text"] (spNumberOf CU) := by
  obtain ⟨uB, mB, rB⟩ := cB
  refine okN F sc_nof (fun vs H Q E h => ?_) (fun cdv A outer s H vs Q E hr h => ?_)
  · obtain ⟨t, rfl, _⟩ := h
    rfl
  · refine ⟨_, pss_cons (ps_set (i := 1) sc_nof.nd rfl (Or.inl rfl) (pe_callTy call_int_str (by rfl) hi (by decide +kernel) (pa_cons (pv 0) pa_nil)))
      (pss_cons (ps_if (PW.pt (pw_or (pt_cmpR op_lt (pv 1) (pe_un un_neg (pe_glob (by rfl) mB rB)) (nomark _)) (pw_or1 (pt_cmpR op_ge (pv 1) (pe_glob (by rfl) mB rB) (nomark _)))))
        (pss_one (L2N.ps_raise rfl (L2N.takes_of rfl rfl rfl rfl) (pmk_bare PySem.F.excBase_Exception U.xF U.gF U.kF (raises_own U.bF U.tF) (by rfl)))) pss_nil)
      (pss_one (ps_ret (pv 1)))), ?_⟩
    obtain ⟨t, rfl, ht, hn, kF, kS⟩ := h
    refine ⟨_, rfl, _, _, rfl, int_text hn (by omega), by rw [S_len]; omega, ?_⟩
    refine ⟨_, rfl, _, rfl, _, _, rfl, rfl, _, rfl, ?_⟩
    refine ite2 (fun c => ?_) (fun c => ?_)
    · refine iteT (kF fun z => ?_)
      exact ((fits_iff _).mp z).1 (of_decide_eq_true c)
    · refine ⟨_, rfl, _, _, rfl, rfl, _, rfl, ?_⟩
      refine ite2 (fun c2 => kF fun z => ((fits_iff _).mp z).2 (of_decide_eq_true c2)) (fun c2 => ?_)
      refine ⟨_, rfl, kS ((fits_iff _).mpr ⟨fun z => c (decide_eq_true z), fun z => c2 (decide_eq_true z)⟩)⟩
/-- a sign as a value -/
def sv : Sf47.Sign → V
  | .word b => .str (S b)
  | .num z => .int z
  | .colon => .str (S [58])
  | .open_ => .str (S [40])
  | .close => .str (S [41])
def spSignOf (CU : Addr) : Sp := fun vs H Q E => ∃ (c : UInt8) (r : Bytes), vs = [.str (S (c :: r))] ∧ (c :: r).length ≤ 600 ∧ (mark c = true → r = []) ∧ (¬ mark c = true → ¬ Sf47.begins c = true → NumText (c :: r)) ∧
  (signOf (c :: r) = none → E (.ref CU) none H) ∧ (∀ s, signOf (c :: r) = some s → Q (sv s) H)
theorem sc_sof : FnScope ["text"] ["text"] (defScope s_sign_of) := ⟨rfl, rfl, rfl, by decide +kernel, rfl, by decide +kernel, by decide +kernel⟩
theorem ok_signOf {f : Addr} {fd : FuncData} (F : Fun K "sign_of" "sign_of" s_sign_of f fd) (cL : TxtC mg "LETTERS" (.str letters)) (cM : TxtC mg "MARKS" (.str marks))
    (W : Df P w K mg base (L2N.CX P w) 1 "word_of" ["text"] (spWordOf CU)) (N : Df P w K mg base (L2N.CX P w) 1 "number_of" ["text"] (spNumberOf CU)) : FnOk P w K mg base (L2N.CX P w) 2 f fd ["text"] (spSignOf CU) := by
  obtain ⟨fW, fdW, mW, kW, bW, FW⟩ := W
  obtain ⟨fN, fdN, mN, kN, bN, FN⟩ := N
  obtain ⟨uL, mL, rL⟩ := cL
  obtain ⟨uM, mM, rM⟩ := cM
  refine okN F sc_sof (fun vs H Q E h => ?_) (fun cdv A outer s H vs Q E hr h => ?_)
  · obtain ⟨c, r, rfl, _⟩ := h
    rfl
  · refine ⟨_, pss_cons (ps_if (pt_cmpR op_in_sign (pe_ix ix_str (pv 0) pe_int (fun _ _ => rfl)) (pe_glob (by rfl) mM rM) (by rfl)) (pss_one (ps_ret (pv 0))) pss_nil)
      (pss_cons (ps_if (pt_cmpR op_in_sign (pe_ix ix_str (pv 0) pe_int (fun _ _ => rfl)) (pe_glob (by rfl) mL rL) (by rfl))
        (pss_one (ps_ret (pe_callS FW hr (by rfl) mW kW bW (fun σ => L2N.passAt (L2N.takes_of rfl rfl rfl rfl) σ) (pa_cons (pv 0) pa_nil)))) pss_nil)
      (pss_one (ps_ret (pe_callS FN hr (by rfl) mN kN bN (fun σ => L2N.passAt (L2N.takes_of rfl rfl rfl rfl) σ) (pa_cons (pv 0) pa_nil))))), ?_⟩
    obtain ⟨c, r, rfl, hl, hm, hn, kF, kS⟩ := h
    have hz : (S (c :: r)).length ≤ sizeLine := by rw [S_len]; exact Nat.le_trans hl (by decide)
    have h0 : atI (S (c :: r)).cps.toList 0 = some c.toNat := S_at (k := 0) rfl
    rw [signOf_cons] at kF kS
    refine ⟨_, rfl, _, _, c.toNat, rfl, rfl, hz, h0, _, _, rfl, rfl, _, rfl, ?_⟩
    rw [in_marks]
    refine ite2 (fun cm => ?_) (fun cm => ?_)
    · rw [hm cm] at kS ⊢
      rw [if_pos cm] at kS
      rcases mark_iff.mp cm with rfl | rfl | rfl
      · exact ⟨_, rfl, kS _ rfl⟩
      · exact ⟨_, rfl, kS _ rfl⟩
      · exact ⟨_, rfl, kS _ rfl⟩
    · rw [if_neg cm] at kF kS
      refine ⟨_, rfl, _, _, c.toNat, rfl, rfl, hz, h0, _, _, rfl, rfl, _, rfl, ?_⟩
      rw [in_letters]
      refine ite2 (fun cb => ?_) (fun cb => ?_)
      · rw [if_pos cb] at kF kS
        exact ⟨_, rfl, c :: r, rfl, Nat.le_trans hl (by decide), fun z => kF (if_pos z), fun z => kS _ (if_neg z)⟩
      · rw [if_neg cb] at kF kS
        exact ⟨_, rfl, c :: r, rfl, hl, hn cm cb, fun z => kF (if_neg z), fun z => kS _ (if_pos z)⟩
/-! ### is_word, is_plain_number -/
/-- signs as a line has them -/
def Proper : Sf47.Sign → Prop
  | .word w => ∃ c r, w = c :: r ∧ Sf47.begins c = true ∧ (∀ x ∈ r, Sf47.inWord x = true) ∧ w.length ≤ 15
  | _ => True
def isW : Sf47.Sign → Bool
  | .word _ => true
  | _ => false
def spIsWord : Sp := fun vs H Q _ => ∃ s : Sf47.Sign, vs = [sv s] ∧ Proper s ∧ Q (.bl (isW s)) H
theorem sc_isw : FnScope ["sign"] ["sign"] (defScope s_is_word) := ⟨rfl, rfl, rfl, by decide +kernel, rfl, by decide +kernel, by decide +kernel⟩
theorem ok_isWord {f : Addr} {fd : FuncData} (F : Fun K "is_word" "is_word" s_is_word f fd) (cL : TxtC mg "LETTERS" (.str letters)) (hi : mg "isinstance" = none) (hs : mg "str" = none) : FnOk P w K mg base CX0 1 f fd ["sign"] spIsWord := by
  obtain ⟨uL, mL, rL⟩ := cL
  refine F.ok sc_isw (fun vs H Q E h => ?_) (fun cdv A outer s H vs Q E hr h => ?_)
  · obtain ⟨s, rfl, _⟩ := h
    rfl
  · refine ⟨_, pss_one (ps_ret (pe_and (pe_callB call_isi (by rfl) hi (by decide +kernel) (pa_cons (pv 0) (pa_cons (pe_bltn (v := .ty "str") (by rfl) hs (by decide +kernel) rfl) pa_nil)))
      (pe_one (pe_cmpR op_in_sign (pe_ix ix_str (pv 0) pe_int (fun _ _ => rfl)) (pe_glob (by rfl) mL rL) (by rfl))))), ?_⟩
    obtain ⟨sg, rfl, hp, q⟩ := h
    have text : ∀ (c : UInt8) (r : Bytes), sv sg = .str (S (c :: r)) → (c :: r).length ≤ 1000 → isW sg = Sf47.begins c →
        (∃ v, (start ["sign"] [sv sg])[0]? = some (some v) ∧ ∃ (x c' : V) (t u : Value) (b : Bool), [v, V.ty "str"] = [x, c'] ∧ ClsV c' u ∧ TyX K H x t ∧ PySem.W.kitOne K t u = some b ∧ ∃ c, V.bl b = V.bl c ∧
          if c = true then (∃ v, (start ["sign"] [sv sg])[0]? = some (some v) ∧ rIxS v (.int 0) H fun x H1 => ∃ (c : Nat) (z : Str), x = .str ⟨#[c]⟩ ∧ V.str letters = .str z ∧ Q (.bl (decide (c ∈ z.cps.toList))) H1) else Q (.bl false) H) := by
      intro c r e hl ew
      rw [e]
      refine ⟨_, rfl, _, _, .type "str", _, true, rfl, .ty "str", .base (.str _), kit_ty (by decide +kernel), _, rfl, iteT ?_⟩
      have hz : (S (c :: r)).length ≤ sizeLine := by rw [S_len]; exact Nat.le_trans hl (by decide)
      refine ⟨_, rfl, _, _, c.toNat, rfl, rfl, hz, S_at (k := 0) rfl, _, _, rfl, rfl, ?_⟩
      rw [in_letters, ← ew]
      exact q
    cases sg with
    | word w =>
      obtain ⟨c, r, rfl, hb, hi, hl⟩ := hp
      exact text c r rfl (Nat.le_trans hl (by decide)) hb.symm
    | num z => exact ⟨_, rfl, _, _, .type "int", _, false, rfl, .ty "str", .base (.int _), kit_ty (by decide +kernel), _, rfl, iteF q⟩
    | colon => exact text 58 [] rfl (by decide) (by decide)
    | open_ => exact text 40 [] rfl (by decide) (by decide)
    | close => exact text 41 [] rfl (by decide) (by decide)
def spPlain : Sp := fun vs H Q _ => ∃ d : Bytes, vs = [.str (S d)] ∧ d.length ≤ 1000 ∧ (∀ c ∈ d, Sf47.inWord c = true) ∧ Q (.bl (plain d)) H
theorem sc_pln : FnScope ["digits"] ["digits"] (defScope s_is_plain_number) := ⟨rfl, rfl, rfl, by decide +kernel, rfl, by decide +kernel, by decide +kernel⟩
theorem isdigit_S (d : Bytes) (h : ∀ c ∈ d, Sf47.inWord c = true) : PySem.Txt.isdigit (S d) = (!d.isEmpty && d.all Sf47.digit) := by
  unfold PySem.Txt.isdigit
  rw [S_len]
  have e1 : decide (d.length > 0) = !d.isEmpty := by cases d <;> simp
  have ub : ∀ c : UInt8, Sf47.inWord c = true → Unicode.isDigit c.toNat = Sf47.digit c := fun c hc => by
    have q := all_bytes (p := fun c => !Sf47.inWord c || Unicode.isDigit c.toNat == Sf47.digit c) (by decide +kernel) c
    simp only [hc, Bool.not_true, Bool.false_or, beq_iff_eq] at q
    exact q
  have e2 : (S d).cps.all Unicode.isDigit = d.all Sf47.digit := by
    rw [← Array.all_toList, S_list, List.all_map]
    clear e1
    induction d with
    | nil => rfl
    | cons c r ih =>
      rw [List.all_cons, List.all_cons, ih fun x hx => h x (List.mem_cons_of_mem _ hx)]
      show (Unicode.isDigit c.toNat && _) = _
      rw [ub c (h c List.mem_cons_self)]
  rw [e1, e2]
theorem ok_plain {f : Addr} {fd : FuncData} (F : Fun K "is_plain_number" "is_plain_number" s_is_plain_number f fd) : FnOk P w K mg base CX0 1 f fd ["digits"] spPlain := by
  refine F.ok sc_pln (fun vs H Q E h => ?_) (fun cdv A outer s H vs Q E hr h => ?_)
  · obtain ⟨d, rfl, _⟩ := h
    rfl
  · refine ⟨_, pss_one (ps_ret (pe_or (pe_cmpR op_eq (pv 0) pe_str (nomark _)) (pe_one (pe_and (pe_m0 PySem.F.slot_str_isdigit PySem.F.type_str_isdigit mt_isdigit (pv 0)) (pe_one (pe_cmpR op_ne (pe_ix ix_str (pv 0) pe_int (fun _ _ => rfl)) pe_str (nomark _))))))), ?_⟩
    obtain ⟨d, rfl, hl, hi, q⟩ := h
    refine ⟨_, rfl, rfl, _, rfl, ?_⟩
    have e : decide (V.str (S d) = V.str (Str.ofString "0")) = (d == [48]) := by
      rw [show Str.ofString "0" = S [48] from by decide +kernel]
      by_cases c : d = [48]
      · rw [c]
        rfl
      · rw [decide_eq_false fun z => c (S_inj (V.str.inj z))]
        exact (beq_eq_false_iff_ne.mpr c).symm
    rw [e]
    unfold SlM.plain at q
    refine ite2 (fun c => ?_) (fun c => ?_)
    · rw [c] at q
      exact q
    · rw [Bool.eq_false_iff.mpr c, Bool.false_or] at q
      refine ⟨_, rfl, ⟨_, rfl⟩, _, rfl, rfl, trivial, _, rfl, ?_⟩
      rw [isdigit_S d hi]
      refine ite2 (fun c2 => ?_) (fun c2 => ?_)
      · rw [c2, Bool.true_and] at q
        cases d with
        | nil => exact absurd c2 (by decide)
        | cons x r =>
          have hz : (S (x :: r)).length ≤ sizeLine := by rw [S_len]; exact Nat.le_trans hl (by decide)
          refine ⟨_, rfl, _, _, x.toNat, rfl, rfl, hz, S_at (k := 0) rfl, rfl, ?_⟩
          rw [sign_is (k := 48) (by decide +kernel)]
          have e3 : ((x :: r : Bytes).head? != some 48) = !decide (x = 48) := by
            by_cases c3 : x = 48
            · subst c3
              rfl
            · rw [decide_eq_false c3]
              simp [c3]
          rw [← e3]
          exact q
      · rw [Bool.eq_false_iff.mpr c2, Bool.false_and] at q
        exact q
end
end Sl
set_option Elab.async false
set_option linter.all false
set_option maxRecDepth 100000
set_option maxHeartbeats 4000000
namespace Sl
open PySem PySem.Spec PyProof.Rows L2 SlM
/-! ### the mathematics of a row -/
theorem par_shown : ∀ (l a : Bytes), (match TL.par [59] (a.map UInt8.toNat) (l.map UInt8.toNat) with | some (x, _) => x | none => (a ++ l).map UInt8.toNat) = (a ++ shown l).map UInt8.toNat
  | [], a => by
    unfold TL.par SlM.shown
    simp
  | c :: r, a => by
    rw [List.map_cons]
    by_cases e : c = 59
    · subst e
      rw [TL.par_hit (by simp [TL.pre])]
      show a.map UInt8.toNat = _
      rw [show shown (59 :: r) = [] from rfl, List.append_nil]
    · have hn : TL.pre [59] (c.toNat :: r.map UInt8.toNat) = false := TL.pre_of_head [] _ fun z => e (toNat_inj (b := 59) z)
      rw [TL.par_miss hn]
      have ih := par_shown r (a ++ [c])
      rw [List.map_append, List.append_assoc, List.append_assoc] at ih
      rw [shown_cons e]
      exact ih
theorem semi : Str.ofString ";" = S [59] := by decide +kernel
theorem part_shown (b : Bytes) : (Txt.partition (S b) (Str.ofString ";")).1 = S (shown b) := by
  rw [semi, TL.partition_par (S b) (S [59]) (by decide +kernel)]
  have h := par_shown b []
  rw [List.nil_append, List.nil_append] at h
  show (match TL.par [59] [] (b.map UInt8.toNat) with | some (a, b) => ((⟨a.toArray⟩ : Str), S [59], (⟨b.toArray⟩ : Str)) | none => (S b, Str.empty, Str.empty)).1 = S (shown b)
  have h : (match TL.par [59] [] (b.map UInt8.toNat) with | some (x, _) => x | none => b.map UInt8.toNat) = (shown b).map UInt8.toNat := h
  cases q : TL.par [59] [] (b.map UInt8.toNat) with
  | none =>
    rw [q] at h
    exact congrArg (fun l : List Nat => (⟨l.toArray⟩ : Str)) h
  | some x =>
    rw [q] at h
    exact congrArg (fun l : List Nat => (⟨l.toArray⟩ : Str)) h
theorem shown_len : ∀ b : Bytes, (shown b).length ≤ b.length
  | [] => Nat.le_refl _
  | c :: r => by
    by_cases e : c = 59
    · subst e
      exact Nat.zero_le _
    · rw [shown_cons e, List.length_cons, List.length_cons]
      exact Nat.succ_le_succ (shown_len r)
theorem shown_no : ∀ b : Bytes, (59 : UInt8) ∉ shown b
  | [] => by simp [SlM.shown]
  | c :: r => by
    by_cases e : c = 59
    · subst e
      simp [SlM.shown]
    · rw [shown_cons e]
      simp only [List.mem_cons, not_or]
      exact ⟨fun z => e z.symm, shown_no r⟩
theorem all_take {p : UInt8 → Bool} : ∀ l : Bytes, (l.takeWhile p).all p = true
  | [] => rfl
  | c :: r => by
    rw [List.takeWhile_cons]
    split
    · rename_i h
      rw [List.all_cons, h, all_take r]
      rfl
    · rfl
/-- what end_of_sign leaves for sign_of -/
theorem ready {c : UInt8} {r : Bytes} {n : Nat} (h : endLen (c :: r) = some n) : ∃ r', (c :: r).take n = c :: r' ∧ (mark c = true → r' = []) ∧ (¬ mark c = true → ¬ Sf47.begins c = true → NumText (c :: r')) := by
  have hp := endLen_pos h
  obtain ⟨m, rfl⟩ : ∃ m, n = m + 1 := ⟨n - 1, by omega⟩
  refine ⟨r.take m, rfl, fun hm => ?_, fun hm hb => ?_⟩
  · rw [endLen_cons, if_pos hm] at h
    cases h
    rfl
  · rw [endLen_cons, if_neg hm, if_neg hb, endNum_cons] at h
    by_cases e : c = 45
    · rw [if_pos e] at h
      by_cases z : runLen Sf47.digit r = 0
      · rw [if_pos z] at h
        cases h
      · rw [if_neg z] at h
        have h := Option.some.inj h
        have hm : m = runLen Sf47.digit r := by omega
        rw [hm, take_run]
        exact ⟨_, fun q => z (run_nil.mpr q), all_take r, .inr (by rw [e])⟩
    · rw [if_neg e] at h
      by_cases z : runLen Sf47.digit (c :: r) = 0
      · rw [if_pos z] at h
        cases h
      · rw [if_neg z] at h
        have h := Option.some.inj h
        have : (c :: r).take (m + 1) = c :: r.take m := rfl
        rw [← this, ← h, take_run]
        exact ⟨_, fun q => z (run_nil.mpr q), all_take _, .inl rfl⟩
theorem tok_proper {l : Bytes} {s : Sf47.Sign} {x : Bytes} (h : tok l = some (s, x)) : Proper s := by
  cases l with
  | nil => cases h
  | cons c r =>
    rw [tok_cons] at h
    split at h
    · cases h; trivial
    split at h
    · cases h; trivial
    split at h
    · cases h; trivial
    split at h
    · rename_i hb
      unfold wTok at h
      split at h
      · cases h
      · rename_i hl
        cases h
        exact ⟨c, _, rfl, hb, fun y hy => List.all_eq_true.mp (all_take r) y hy, by omega⟩
    split at h
    · unfold nTok at h
      split at h
      · cases h; trivial
      · cases h
    split at h
    · unfold nTok at h
      split at h
      · cases h; trivial
      · cases h
    · cases h
theorem sg_proper : ∀ (n : Nat) (b : Bytes) (ss : List Sf47.Sign), b.length ≤ n → sg b = some ss → ∀ s ∈ ss, Proper s
  | _, [], ss, _, h => by
    cases h
    intro s hs
    cases hs
  | 0, c :: r, _, h, _ => absurd h (by simp)
  | n + 1, c :: r, ss, hl, h => by
    have hl : r.length ≤ n := Nat.le_of_succ_le_succ hl
    rw [sg_cons] at h
    split at h
    · cases h
      intro s hs
      cases hs
    split at h
    · exact sg_proper n r ss hl h
    cases q : tok (c :: r) with
    | none =>
      rw [q] at h
      cases h
    | some x =>
      rw [q] at h
      have h : (sg x.2).map (fun l => x.1 :: l) = some ss := h
      have l := tok_len (s := x.1) (x := x.2) (by rw [q])
      rw [List.length_cons] at l
      cases q2 : sg x.2 with
      | none =>
        rw [q2] at h
        cases h
      | some l2 =>
        rw [q2] at h
        cases h
        intro s hs
        rcases List.mem_cons.mp hs with rfl | hs
        · exact tok_proper (l := c :: r) (x := x.2) (by rw [q])
        · exact sg_proper n x.2 l2 (by omega) q2 s hs
theorem cut_S (b : Bytes) (j n : Nat) (h : j + n ≤ b.length) : cutS (S b) (some (j : Int)) (some ((j + n : Nat) : Int)) = S ((b.drop j).take n) := by
  unfold cutS
  rw [HT.sIx_nat, HT.sIx_nat, S_len, show min (j + n) b.length = j + n from Nat.min_eq_left h, show min j b.length = j from Nat.min_eq_left (by omega), S_list, Nat.add_sub_cancel_left, ← List.map_drop, ← List.map_take]
  rfl
section
variable {P : Program} {w : World} {K : PySem.W.Frag} {mg : Str → Option Value} {base : Heap} {CU : Addr}
def signsOf (b : Bytes) : Option (List Sf47.Sign) := if 255 < b.length then none else sg b
def spSigns (CU : Addr) : Sp := fun vs H Q E => ∃ b : Bytes, vs = [.str (S b)] ∧ b.length ≤ 70000 ∧ (signsOf b = none → ∀ H', Same H H' → E (.ref CU) none H') ∧
  (∀ ss, signsOf b = some ss → ∀ H' p, Same H H' → H p = none → H' p = some (.lst (ss.map sv)) → Q (.ref p) H')
theorem sc_sgs : FnScope ["row", "shown", "signs", "at", "end"] ["row"] (defScope s_signs_of) := ⟨rfl, rfl, rfl, by decide +kernel, rfl, by decide +kernel, by decide +kernel⟩
theorem ok_signs {f : Addr} {fd : FuncData} (F : Fun K "signs_of" "signs_of" s_signs_of f fd) (U : UnTxt K mg CU) (hl : mg "len" = none) (cR : TxtC mg "ROW_LIMIT" (.int 255)) (cB : TxtC mg "BLANKS" (.str blanks))
    (N : Df P w K mg base (L2N.CX P w) 3 "end_of_sign" ["row", "start"] (spSignEnd CU)) (O : Df P w K mg base (L2N.CX P w) 2 "sign_of" ["text"] (spSignOf CU)) : FnOk P w K mg base (L2N.CX P w) 4 f fd ["row"] (spSigns CU) := by
  obtain ⟨fN, fdN, mN, kN, bN, FN⟩ := N
  obtain ⟨fO, fdO, mO, kO, bO, FO⟩ := O
  obtain ⟨uR, mR, rR⟩ := cR
  obtain ⟨uB, mB, rB⟩ := cB
  refine okN F sc_sgs (fun vs H Q E h => ?_) (fun cdv A outer s H vs Q E hr h => ?_)
  · obtain ⟨b, rfl, _⟩ := h
    rfl
  · have hr2 : Room 2 _ := hr.mono (by decide)
    refine ⟨_, pss_cons (ps_if (pt_cmpR op_gt (pe_callB call_len_str (by rfl) hl PySem.boot_len (pa_cons (pv 0) pa_nil)) (pe_glob (by rfl) mR rR) (nomark _))
        (pss_one (L2N.ps_raise rfl (L2N.takes_of rfl rfl rfl rfl) (pmk_bare PySem.F.excBase_Exception U.xF U.gF U.kF (raises_own U.bF U.tF) (by rfl)))) pss_nil)
      (pss_cons (ps_set (i := 1) sc_sgs.nd rfl (Or.inl rfl) (pe_ix ix_tup (pe_partition (pv 0) pe_str) pe_int (fun _ _ => rfl)))
      (pss_cons (ps_set (i := 2) sc_sgs.nd rfl (Or.inl rfl) (pe_lst pa_nil))
      (pss_cons (ps_set (i := 3) sc_sgs.nd rfl (Or.inl rfl) pe_int)
      (pss_cons (ps_while PassesOwn.leaving (pt_cmpR op_lt (pv 3) (pe_callB call_len_str (by rfl) hl PySem.boot_len (pa_cons (pv 1) pa_nil)) (nomark _))
        (pss_one (ps_if (pt_cmpR op_in_sign (pe_ix ix_str (pv 1) (pv 3) (fun _ _ => rfl)) (pe_glob (by rfl) mB rB) (by rfl))
          (pss_one (ps_aug (i := 3) sc_sgs.nd rfl (Or.inl rfl) pe_int ip_add))
          (pss_cons (ps_set (i := 4) sc_sgs.nd rfl (Or.inl rfl) (pe_callS FN hr (by rfl) mN kN bN (fun σ => L2N.passAt (L2N.takes_of rfl rfl rfl rfl) σ) (pa_cons (pv 1) (pa_cons (pv 3) pa_nil))))
          (pss_cons (ps_expr (pe_bm PySem.F.plainAttrs_list PySem.F.slot_list_append PySem.F.type_list_append mt_append (pv 2)
            (pa_cons (pe_callS FO hr2 (by rfl) mO kO bO (fun σ => L2N.passAt (L2N.takes_of rfl rfl rfl rfl) σ) (pa_cons (pe_slice sl_str (pv 1) (po_some (pv 3)) (po_some (pv 4))) pa_nil)) pa_nil)))
          (pss_one (ps_set (i := 3) sc_sgs.nd rfl (Or.inl rfl) (pv 4))))))))
      (pss_one (ps_ret (pv 2))))))), ?_⟩
    obtain ⟨b, rfl, hb, kF, kS⟩ := h
    have hz : (S b).length ≤ sizeLine := by rw [S_len]; exact Nat.le_trans hb (by decide)
    refine ⟨_, rfl, _, rfl, hz, _, _, rfl, rfl, _, rfl, ?_⟩
    rw [S_len]
    unfold signsOf at kF kS
    refine ite2 (fun c => kF (if_pos (by have := of_decide_eq_true c; omega)) H (Same.refl H)) (fun c => ?_)
    have hb2 : ¬ 255 < b.length := fun z => c (decide_eq_true (by omega))
    rw [if_neg hb2] at kF kS
    rw [sg_shown b.length b (Nat.le_refl _)] at kF kS
    refine ⟨_, rfl, ⟨_, rfl⟩, _, _, rfl, rfl, by decide +kernel, hz, fun q nq => ?_⟩
    rw [part_shown]
    refine ⟨_, _, _, _, rfl, rfl, .inl (.inl upd_same), rfl, ?_⟩
    refine ⟨by show 0 ≤ sizeLine; decide, fun p np => ?_⟩
    have hq : H q = none := nq
    have hp : H p = none := by
      by_cases e : p = q
      · rw [e]; exact nq
      · rwa [upd_ne e] at np
    have sh : ∀ o, Same H (upd (upd H q (.tup [.str (S (shown b)), .str (Txt.partition (S b) (Str.ofString ";")).2.1, .str (Txt.partition (S b) (Str.ofString ";")).2.2])) p o) := fun o x ob e => by
      rw [upd_ne (ne_of_none e hp), upd_ne (ne_of_none e hq)]
      exact e
    have hn59 := shown_no b
    have hls := shown_len b
    generalize shown b = d at *
    generalize upd H q (.tup [.str (S d), .str (Txt.partition (S b) (Str.ofString ";")).2.1, .str (Txt.partition (S b) (Str.ofString ";")).2.2]) = H1 at *
    have hzd : (S d).length ≤ sizeLine := by rw [S_len]; exact Nat.le_trans hls (Nat.le_trans hb (by decide))
    refine while_by (fun σ H' => ∃ (j : Nat) (acc : List Sf47.Sign) (v : Option V), σ = [some (.str (S b)), some (.str (S d)), some (.ref p), some (.int j), v] ∧ H' = upd H1 p (.lst (acc.map sv)) ∧ j ≤ d.length ∧ acc.length ≤ j ∧
        sg d = (sg (d.drop j)).map fun l => acc ++ l) (fun σ _ => match σ with | [_, _, _, some (.int j), _] => d.length - j.toNat | _ => 0) ⟨0, [], none, rfl, rfl, Nat.zero_le _, Nat.le_refl _, ?_⟩ ?_ ?_
    · rw [List.drop_zero]
      cases sg d <;> rfl
    · rintro σ H' ⟨j, acc, v, rfl, rfl, hj, ha, e⟩
      refine ⟨_, rfl, _, rfl, _, rfl, hzd, _, _, rfl, rfl, _, rfl, ?_⟩
      rw [S_len]
      refine ite2 (fun c => ?_) (fun c => ?_)
      · have c : j < d.length := by have := of_decide_eq_true c; omega
        obtain ⟨ch, hch⟩ : ∃ ch, d[j]? = some ch := ⟨d[j], List.getElem?_eq_getElem c⟩
        have dj := drop_at hch
        have n59 : ¬ ch = 59 := fun z => hn59 (by rw [← z]; exact List.mem_of_getElem? hch)
        rw [dj, sg_cons, if_neg n59] at e
        refine ⟨_, rfl, _, rfl, _, _, ch.toNat, rfl, rfl, hzd, S_at hch, _, _, rfl, rfl, _, rfl, ?_⟩
        rw [in_blanks]
        refine ite2 (fun cb => ?_) (fun cb => ?_)
        · rw [if_pos cb] at e
          refine ⟨_, rfl, _, _, rfl, rfl, ⟨j + 1, acc, v, rfl, rfl, c, by omega, e⟩, ?_⟩
          show d.length - ((j : Int) + 1).toNat < d.length - (j : Int).toNat
          omega
        · rw [if_neg cb, ← dj, tok_end] at e
          refine ⟨_, rfl, _, rfl, d, j, rfl, c, by omega, fun z => ?_, fun n hn => ?_⟩
          · rw [z] at e
            exact kF e _ (sh _)
          · rw [hn, Option.bind_some] at e
            have hpos := endLen_pos hn
            rw [List.length_drop] at hpos
            rw [dj] at hn
            obtain ⟨r', er, hm, hnt⟩ := ready hn
            rw [← dj] at er
            rw [er] at e
            refine ⟨_, rfl, .inl ⟨rfl, _, SqL.of upd_same⟩, _, rfl, _, rfl, _, rfl, _, rfl, _, rfl, _, rfl, hzd, ?_⟩
            rw [cut_S d j n (by omega), er]
            have hlr : (ch :: r').length ≤ 600 := by
              rw [← er, List.length_take, List.length_drop]
              omega
            refine ⟨ch, r', rfl, hlr, hm, hnt, fun z => ?_, fun sn hs => ?_⟩
            · rw [z] at e
              exact kF e _ (sh _)
            · refine ⟨p, _, _, rfl, rfl, upd_same, by rw [List.length_map]; exact Nat.lt_of_le_of_lt (Nat.le_trans ha hj) (Nat.lt_of_le_of_lt hls (Nat.lt_of_le_of_lt hb (by decide))), ?_⟩
              refine ⟨_, rfl, ⟨j + n, acc ++ [sn], _, rfl, ?_, by omega, by rw [List.length_append, List.length_singleton]; omega, ?_⟩, ?_⟩
              · rw [upd_upd, List.map_append]
                rfl
              · rw [hs, Option.map_some, Option.bind_some, List.drop_drop] at e
                rw [e]
                cases sg (d.drop (j + n)) with
                | none => rfl
                | some l => simp
              · show d.length - ((j + n : Nat) : Int).toNat < d.length - (j : Int).toNat
                omega
      · have c : ¬ j < d.length := fun z => c (decide_eq_true (by omega))
        have e0 : d.drop j = [] := List.drop_eq_nil_of_le (by omega)
        rw [e0] at e
        have e : sg d = some acc := by rw [e, sg_nil]; simp
        exact ⟨_, rfl, kS acc e _ p (sh _) hp upd_same⟩
    · rintro σ H2 Q1 Q2 hq ⟨v1, e1, v2, e2, x, e3, hz', i, j, e4, e5, k, e6, h⟩
      exact ⟨v1, e1, v2, e2, x, e3, hz', i, j, e4, e5, k, e6, hq _ _ h⟩
end
end Sl
set_option Elab.async false
set_option linter.all false
set_option maxRecDepth 100000
set_option maxHeartbeats 4000000
namespace Sl
open PySem PySem.Spec PyProof.Rows L2 SlM
/-! ### the table of the signs -/
def others : Str := Str.ofString "-;\n"
def allSigns : Str := letters ++ digits ++ marks ++ blanks ++ others
def tbl : List Nat := allSigns.cps.toList
theorem tbl_nd : tbl.Nodup := by decide +kernel
theorem tbl_known (c : UInt8) : decide (c.toNat ∈ tbl) = known c := by
  have q := all_bytes (p := fun c => decide (c.toNat ∈ tbl) == known c) (by decide +kernel) c
  exact beq_iff_eq.mp q
def ent (l : List Nat) : List (Key × V) := l.map fun (c : Nat) => (Sum.inl (c : Int), V.str ⟨#[c]⟩)
theorem ent_val : ∀ (l : List Nat) (n : Nat), valV (ent l) (Sum.inl (n : Int)) = if n ∈ l then some (V.str ⟨#[n]⟩) else none
  | [], n => rfl
  | c :: r, n => by
    have ih := ent_val r n
    unfold valV ent at *
    rw [List.map_cons, List.find?_cons]
    by_cases e : c = n
    · subst e
      simp
    · have e' : ¬ ((Sum.inl (c : Int) : Key) = Sum.inl (n : Int)) := fun z => e (by have := Sum.inl.inj z; omega)
      rw [decide_eq_false e']
      have e2 : ¬ n = c := fun z => e z.symm
      simp only [List.mem_cons, e2, false_or]
      exact ih
theorem ent_put {l : List Nat} {c : Nat} (h : c ∉ l) : putK (ent l) (Sum.inl (c : Int)) (V.str ⟨#[c]⟩) = ent (l ++ [c]) := by
  rw [putK_new _ (by rw [ent_val, if_neg h])]
  unfold ent
  rw [List.map_append]
  rfl
theorem ent_len (l : List Nat) : (ent l).length = l.length := by unfold ent; rw [List.length_map]
/-- the sign that stands for a code -/
def code (n : Int) : UInt8 := nb (UInt8.ofNat n.toNat)
theorem get_code {n : Int} (h0 : 0 ≤ n) (h1 : n ≤ 255) : (valV (ent tbl) (Sum.inl n)).getD (V.str (Str.ofString "?")) = V.str (S [code n]) := by
  have e : n = ((n.toNat : Nat) : Int) := by omega
  have lt : n.toNat < 256 := by omega
  have t : (UInt8.ofNat n.toNat).toNat = n.toNat := by
    rw [UInt8.toNat_ofNat']
    exact Nat.mod_eq_of_lt lt
  have k := tbl_known (UInt8.ofNat n.toNat)
  rw [t] at k
  rw [e, ent_val]
  unfold code nb
  rw [← e]
  by_cases m : n.toNat ∈ tbl
  · rw [decide_eq_true m] at k
    rw [if_pos m, if_pos k.symm]
    show V.str ⟨#[n.toNat]⟩ = V.str ⟨#[(UInt8.ofNat n.toNat).toNat]⟩
    rw [t]
  · rw [decide_eq_false m] at k
    rw [if_neg m, if_neg (by rw [← k]; exact Bool.false_ne_true)]
    show V.str (Str.ofString "?") = V.str (S [63])
    rw [show Str.ofString "?" = S [63] from by decide +kernel]
theorem bytes_code (ns : List Int) : (Sf47Neutral.bytesOf ns).map nb = ns.map code := by
  unfold Sf47Neutral.bytesOf
  rw [List.map_map]
  rfl
theorem join_S (l : Bytes) : Txt.join (Str.ofString "") (l.map fun c => S [c]) = S l := by
  rw [TL.join_eq]
  have e : ∀ l : Bytes, TL.tl (Str.join (Str.ofString "") (l.map fun c => S [c])) = l.map UInt8.toNat := by
    intro l
    induction l with
    | nil => rfl
    | cons c r ih =>
      cases r with
      | nil => rfl
      | cons c' r' =>
        show TL.tl (S [c] ++ Str.ofString "" ++ Str.join (Str.ofString "") ((c' :: r').map fun c => S [c])) = _
        rw [TL.tl_append, TL.tl_append, ih, show TL.tl (Str.ofString "") = [] from by decide +kernel, List.append_nil]
        rfl
  exact TL.ext_tl (e l)
section
variable {P : Program} {w : World} {K : PySem.W.Frag} {mg : Str → Option Value} {base : Heap}
def spText (K : PySem.W.Frag) : Sp := fun vs H Q _ => ∃ (a : Addr) (ns : List Int), vs = [.ref a] ∧ SqL K H a (ns.map V.int) ∧ ns.length ≤ 65536 ∧ (∀ n ∈ ns, 0 ≤ n ∧ n ≤ 255) ∧ ∀ H', Same H H' → Q (.str (S (ns.map code))) H'
theorem sc_txt : FnScope ["codes", "characters", "character", "code"] ["codes"] (defScope s_text_of) := ⟨rfl, rfl, rfl, by decide +kernel, rfl, by decide +kernel, by decide +kernel⟩
theorem ok_text {f : Addr} {fd : FuncData} (F : Fun K "text_of" "text_of" s_text_of f fd) (cL : TxtC mg "LETTERS" (.str letters)) (cD : TxtC mg "DIGITS" (.str digits)) (cM : TxtC mg "MARKS" (.str marks)) (cB : TxtC mg "BLANKS" (.str blanks)) (cO : TxtC mg "OTHERS" (.str others))
    (cU : TxtC mg "UNKNOWN" (.str (Str.ofString "?"))) (ho : mg "ord" = none) : FnOk P w K mg base CX0 1 f fd ["codes"] (spText K) := by
  obtain ⟨uL, mL, rL⟩ := cL
  obtain ⟨uD, mD, rD⟩ := cD
  obtain ⟨uM, mM, rM⟩ := cM
  obtain ⟨uB, mB, rB⟩ := cB
  obtain ⟨uO, mO, rO⟩ := cO
  obtain ⟨uU, mU, rU⟩ := cU
  refine F.ok sc_txt (fun vs H Q E h => ?_) (fun cdv A outer s H vs Q E hr h => ?_)
  · obtain ⟨a, ns, rfl, _⟩ := h
    rfl
  · have hu := hu_of hr
    refine ⟨_, pss_cons (ps_set (i := 1) sc_txt.nd rfl (Or.inr rfl) pe_dnewK)
      (pss_cons (ps_for PassesOwn.never rfl (pi_str (pe_op op_add_str (pe_op op_add_str (pe_op op_add_str (pe_op op_add_str (pe_glob (by rfl) mL rL) (pe_glob (by rfl) mD rD)) (pe_glob (by rfl) mM rM)) (pe_glob (by rfl) mB rB)) (pe_glob (by rfl) mO rO)))
          (pg_name (i := 2) sc_txt.nd rfl (Or.inl rfl))
        (pss_one (ps_dput hu (pv 1) (pe_callB call_ord (by rfl) ho (by decide +kernel) (pa_cons (pv 2) pa_nil)) (pv 2) rfl)))
      (pss_one (ps_ret (pe_join pe_str (pe_lc (own := [("code", 3)]) (g := gName 3) (tt := tYes) rfl sc_txt.nd (pi_list (pv 0)) (blkOk_by (own := [("code", 3)]) (N := ["codes", "characters", "character", "code"]) (sc := defScope s_text_of) (by decide +kernel))
        (fun _ _ _ _ _ => pg_name (i := 3) sc_txt.nd rfl (Or.inl rfl)) (fun _ _ _ _ _ => pts_nil) (fun _ _ _ _ _ => pe_dget2 hu (pv 1) (pv 3) (pe_glob (by rfl) mU rU) ⟨rfl, rfl, rfl, rfl⟩)))))), ?_⟩
    obtain ⟨a, ns, rfl, hS, hl, hn, q⟩ := h
    intro d nd
    have sd : ∀ o, Same H (upd H d o) := fun o x ob e => by rw [upd_ne (ne_of_none e nd)]; exact e
    refine ⟨_, _, rfl, rfl, by decide, _, _, rfl, rfl, by decide, _, _, rfl, rfl, by decide, _, _, rfl, rfl, by decide, _, rfl, ?_⟩
    refine for_it (walk_str (z := allSigns)) (fun i σ H' => ∃ v : Option V, σ = [some (.ref a), some (.ref d), v, none] ∧ H' = upd H d (.dK (ent (tbl.take i)))) ⟨none, rfl, rfl⟩ (fun _ _ _ _ _ => trivial) ?_ ?_
    · rintro i x σ H1 H2 hi ⟨v, rfl, rfl⟩ ⟨rfl, c, hc, rfl⟩
      have hc' : tbl[i]? = some c := by
        unfold tbl
        rw [Array.getElem?_toList]
        exact hc
      refine ⟨_, rfl, _, rfl, _, rfl, _, rfl, rfl, d, _, rfl, DPut.k (k := Sum.inl (c : Int)) upd_same (by rw [ent_len, List.length_take]; exact Nat.lt_of_le_of_lt (Nat.min_le_right _ _) (by decide +kernel)), ?_⟩
      refine ⟨_, rfl, ?_⟩
      rw [upd_upd]
      have nin : c ∉ tbl.take i := fun hm => by
        have hlt : i < tbl.length := (List.getElem?_eq_some_iff.mp hc').1
        obtain ⟨j, hj, ej⟩ := List.mem_take_iff_getElem.mp hm
        have e1 : tbl[j]? = some c := by rw [← ej, List.getElem?_eq_getElem]
        have := nd_ix tbl_nd hc' e1
        omega
      show upd H d (.dK (putK (ent (tbl.take i)) (Sum.inl (c : Int)) (V.str ⟨#[c]⟩))) = _
      rw [ent_put nin, List.take_succ, hc']
      rfl
    · rintro σ H1 ⟨v, rfl, rfl⟩
      have et : tbl.take allSigns.cps.size = tbl := List.take_of_length_le (by unfold tbl; simp)
      rw [et]
      refine ⟨⟨_, rfl⟩, _, rfl, a, rfl, ⟨_, (sd _).seq hS⟩, fun D nD => ?_⟩
      have nDH : H D = none := by
        by_cases e : D = d
        · rw [e]; exact nd
        · rwa [upd_ne e] at nD
      have neD : d ≠ D := fun e => by
        rw [← e, upd_same] at nD
        cases nD
      refine lc_list (K := K) (a := a) (xs := ns.map V.int) (fun i H' => H' D = some (.lst ((ns.take i).map fun n => V.str (S [code n]))) ∧ H' d = some (.dK (ent tbl)) ∧ Same H H') ⟨upd_same, ?_, ?_⟩ (fun i H' _ h => h.2.2.seq hS) ?_ ?_
      · rw [upd_ne neD, upd_same]
      · intro x o e
        rw [upd_ne (ne_of_none e nDH), upd_ne (ne_of_none e nd)]
        exact e
      · rintro i x H' hx ⟨h1, h2, h3⟩
        obtain ⟨n, hn', rfl⟩ : ∃ n, ns[i]? = some n ∧ x = V.int n := by
          rw [List.getElem?_map] at hx
          cases e : ns[i]? with
          | none =>
            rw [e] at hx
            cases hx
          | some z =>
            rw [e] at hx
            exact ⟨z, rfl, (Option.some.inj hx).symm⟩
        have hmem := hn n (List.mem_of_getElem? hn')
        refine ⟨rfl, ?_⟩
        dsimp only [tYes]
        rw [if_pos rfl]
        refine ⟨_, rfl, d, rfl, .inl ⟨_, .inl h2⟩, _, rfl, _, DGet.k (k := Sum.inl n) h2, ?_⟩
        rw [get_code hmem.1 hmem.2]
        refine ⟨_, h1, by rw [List.length_map, List.length_take]; exact Nat.lt_of_le_of_lt (Nat.le_trans (Nat.min_le_right _ _) hl) (by decide), upd_same.trans ?_, by rw [upd_ne neD]; exact h2, fun x o e => ?_⟩
        · rw [List.take_succ, hn', List.map_append]
          rfl
        · rw [upd_ne (ne_of_none e nDH)]
          exact h3 x o e
      · rintro H' ⟨h1, h2, h3⟩
        rw [List.length_map, List.take_length] at h1
        have e : (ns.map fun n => V.str (S [code n])) = ((ns.map code).map fun c => S [c]).map V.str := by
          rw [List.map_map, List.map_map]
          rfl
        rw [e] at h1
        refine ⟨_, D, (ns.map code).map (fun c => S [c]), rfl, rfl, .inl (SqL.of h1), ?_, ?_⟩
        · have e2 : (((ns.map code).map fun c => S [c]).map (·.length)).sum = ns.length := by
            rw [List.map_map, List.map_map]
            clear e h1 h2 h3 hS hl hn q
            induction ns with
            | nil => rfl
            | cons n r ih =>
              rw [List.map_cons, List.sum_cons, ih, List.length_cons]
              show (S [code n]).length + r.length = r.length + 1
              rw [S_len]
              exact Nat.add_comm _ _
          rw [e2, show (Str.ofString "").length = 0 from by decide +kernel, Nat.mul_zero, Nat.add_zero]
          exact Nat.le_trans hl (by decide)
        · rw [join_S]
          exact q H' h3
/-! ### rows_of -/
theorem spl_lines : ∀ (l w : Bytes), ∃ R z, TL.spl [10] 0 (w.map UInt8.toNat) (l.map UInt8.toNat) = R ++ [z] ∧ (Sf47.linesOf l w).map (fun b => b.map UInt8.toNat) = if z = [] then R else R ++ [z]
  | [], w => by
    refine ⟨[], w.map UInt8.toNat, by rw [List.map_nil, TL.spl_nil]; rfl, ?_⟩
    cases w with
    | nil => rfl
    | cons c r => rfl
  | c :: r, w => by
    rw [List.map_cons]
    by_cases e : c = 10
    · subst e
      obtain ⟨R, z, h1, h2⟩ := spl_lines r []
      refine ⟨w.map UInt8.toNat :: R, z, ?_, ?_⟩
      · rw [TL.spl_hit (by simp [TL.pre])]
        show _ :: TL.spl [10] 0 [] _ = _
        rw [List.map_nil] at h1
        rw [h1]
        rfl
      · show (w :: Sf47.linesOf r []).map _ = _
        rw [List.map_cons, h2]
        split <;> rfl
    · have hn : TL.pre [10] (c.toNat :: r.map UInt8.toNat) = false := TL.pre_of_head [] _ fun z => e (toNat_inj (b := 10) z)
      obtain ⟨R, z, h1, h2⟩ := spl_lines r (w ++ [c])
      refine ⟨R, z, ?_, ?_⟩
      · rw [TL.spl_miss hn]
        rw [List.map_append] at h1
        exact h1
      · rw [show Sf47.linesOf (c :: r) w = Sf47.linesOf r (w ++ [c]) from if_neg e]
        exact h2
theorem snoc_map {α β : Type} {f : α → β} : ∀ {l : List α} {R : List β} {z : β}, l.map f = R ++ [z] → ∃ l' x, l = l' ++ [x] ∧ l'.map f = R ∧ f x = z
  | [], R, z, h => by cases R <;> simp at h
  | a :: r, [], z, h => by
    rw [List.map_cons, List.nil_append] at h
    obtain ⟨h1, h2⟩ := List.cons.inj h
    have := List.map_eq_nil_iff.mp h2
    subst this
    exact ⟨[], a, rfl, rfl, h1⟩
  | a :: r, b :: R, z, h => by
    rw [List.map_cons, List.cons_append] at h
    obtain ⟨h1, h2⟩ := List.cons.inj h
    obtain ⟨l', x, e1, e2, e3⟩ := snoc_map h2
    exact ⟨a :: l', x, by rw [e1]; rfl, by rw [List.map_cons, h1, e2], e3⟩
theorem map_S {l : List Str} {bs : List Bytes} (h : l.map TL.tl = bs.map fun b => b.map UInt8.toNat) : l = bs.map S := by
  refine TL.map_tl_inj ?_
  rw [h, List.map_map]
  rfl
def spRows (K : PySem.W.Frag) : Sp := fun vs H Q _ => ∃ (a : Addr) (ns : List Int), vs = [.ref a] ∧ SqL K H a (ns.map V.int) ∧ ns.length ≤ 65536 ∧ (∀ n ∈ ns, 0 ≤ n ∧ n ≤ 255) ∧
  ∀ H' p, Same H H' → H p = none → H' p = some (.lst ((Sf47.linesOf (ns.map code) []).map fun b => V.str (S b))) → Q (.ref p) H'
theorem sc_rws : FnScope ["codes", "rows"] ["codes"] (defScope s_rows_of) := ⟨rfl, rfl, rfl, by decide +kernel, rfl, by decide +kernel, by decide +kernel⟩
theorem ok_rows {f : Addr} {fd : FuncData} (F : Fun K "rows_of" "rows_of" s_rows_of f fd) (T : Df P w K mg base CX0 1 "text_of" ["codes"] (spText K)) : FnOk P w K mg base CX0 2 f fd ["codes"] (spRows K) := by
  obtain ⟨fT, fdT, mT, kT, bT, FT⟩ := T
  refine F.ok sc_rws (fun vs H Q E h => ?_) (fun cdv A outer s H vs Q E hr h => ?_)
  · obtain ⟨a, ns, rfl, _⟩ := h
    rfl
  · refine ⟨_, pss_cons (ps_set (i := 1) sc_rws.nd rfl (Or.inl rfl) (pe_split (pe_call FT hr (by rfl) mT kT bT .nil pass0 (pa_cons (pv 0) pa_nil)) pe_str))
      (pss_cons (ps_if (pt_cmpR op_eq (pe_ix ix_list (pv 1) (pe_un un_neg pe_int) (fun _ _ => rfl)) pe_str (nomark _))
        (pss_one (ps_expr (pe_bm0 PySem.F.plainAttrs_list PySem.F.slot_list_pop PySem.F.type_list_pop mt_pop (pv 1)))) pss_nil)
      (pss_one (ps_ret (pv 1)))), ?_⟩
    obtain ⟨a, ns, rfl, hS, hl, hn, q⟩ := h
    refine ⟨_, rfl, a, ns, rfl, hS, hl, hn, fun H1 s1 => ⟨⟨_, rfl⟩, _, _, rfl, rfl, by decide +kernel, ?_, fun p np => ?_⟩⟩
    · rw [S_len, List.length_map]
      exact Nat.le_trans (Nat.add_le_add_right hl 2) (by decide)
    · obtain ⟨R, z, h1, h2⟩ := spl_lines (ns.map code) []
      have hp := TL.split_spl (S (ns.map code)) (Str.ofString "\n") (by decide +kernel) (TL.kind_ok (by decide +kernel))
      rw [show TL.tl (Str.ofString "\n") = [10] from by decide +kernel] at hp
      rw [List.map_nil] at h1
      have hp : (Txt.split (S (ns.map code)) (Str.ofString "\n")).map TL.tl = R ++ [z] := hp.trans h1
      generalize Txt.split (S (ns.map code)) (Str.ofString "\n") = X at hp ⊢
      obtain ⟨l', x, rfl, e1, e2⟩ := snoc_map hp
      have npH : H p = none := s1.free np
      have same : ∀ o, Same H (upd H1 p o) := fun o y ob e => by rw [upd_ne (ne_of_none e npH)]; exact s1 y ob e
      rw [List.map_append, List.map_singleton]
      refine ⟨_, rfl, _, rfl, _, _, _, _, rfl, rfl, SqL.of upd_same, atI_last _ _, rfl, _, rfl, ?_⟩
      refine ite2 (fun c => ?_) (fun c => ?_)
      · have hx : x = Str.ofString "" := V.str.inj (of_decide_eq_true c)
        have hz : z = [] := by rw [← e2, hx]; decide +kernel
        rw [if_pos hz] at h2
        have el : l' = (Sf47.linesOf (ns.map code) []).map S := map_S (by rw [e1, h2])
        refine ⟨_, rfl, .inl ⟨rfl, _, SqL.of upd_same⟩, p, _, V.str x, rfl, rfl, upd_same, by simp, ?_⟩
        refine ⟨_, rfl, q _ p ?_ npH ?_⟩
        · rw [upd_upd]
          exact same _
        · rw [upd_upd, upd_same, List.dropLast_concat, el, List.map_map]
          rfl
      · have hz : ¬ z = [] := fun hz => c (decide_eq_true (congrArg V.str (TL.ext_tl (by rw [e2, hz]; decide +kernel))))
        rw [if_neg hz] at h2
        have el : l' ++ [x] = (Sf47.linesOf (ns.map code) []).map S := map_S (by rw [hp, h2])
        refine ⟨_, rfl, q _ p (same _) npH ?_⟩
        rw [upd_same]
        have e3 : l'.map V.str ++ [V.str x] = (l' ++ [x]).map V.str := by rw [List.map_append]; rfl
        rw [e3, el, List.map_map]
        rfl
end
end Sl
set_option Elab.async false
set_option linter.all false
set_option maxRecDepth 100000
set_option maxHeartbeats 4000000
namespace Sl
open PySem PySem.Spec PyProof.Rows L2 SlM
/-! ### tables -/
theorem relV_inj {a b : V} {u : Value} (ha : L2.RelV a u) (hb : L2.RelV b u) : a = b := by
  cases a <;> cases b <;> simp only [L2.RelV] at ha hb <;> first
    | rfl
    | (subst ha; cases hb; rfl; done)
    | (subst ha; cases hb; done)
    | (subst ha; obtain ⟨t, e⟩ := hb; cases e; done)
    | (obtain ⟨t, rfl⟩ := ha; cases hb; done)
    | (obtain ⟨t, rfl⟩ := ha; obtain ⟨t2, e⟩ := hb; cases e; rfl; done)
    | (obtain ⟨t, rfl⟩ := ha; obtain ⟨t2, e⟩ := hb; cases e; done)
theorem lookup_S {β γ : Type} (g : β → γ) (w : Bytes) : ∀ ps : List (Bytes × β), (ps.map fun p => (S p.1, g p.2)).lookup (S w) = (ps.lookup w).map g
  | [] => rfl
  | (n, b) :: r => by
    rw [List.map_cons, List.lookup_cons, List.lookup_cons]
    have e : (S w == S n) = (w == n) := by
      by_cases c : w = n
      · rw [c, beq_self_eq_true, beq_self_eq_true]
      · rw [beq_eq_false_iff_ne.mpr c, beq_eq_false_iff_ne.mpr fun z => c (S_inj z)]
    rw [e]
    cases c : (w == n) with
    | true => rfl
    | false => exact lookup_S g w r
def constT : List (Bytes × Int) := [(Sf47.txt "FALSE", 0), (Sf47.txt "TRUE", 1)]
def sizeT : List (Bytes × Int) := [(Sf47.txt "I", 64), (Sf47.txt "Q", 64), (Sf47.txt "M", 256), (Sf47.txt "T", 32), (Sf47.txt "C", 32), (Sf47.txt "W", 256), (Sf47.txt "E", 32), (Sf47.txt "V", 32)]
theorem size_look (x : UInt8) : sizeT.lookup [x] = (sizes.lookup x).map fun n => (n : Int) := by
  have e : ∀ c : UInt8, (([x] : Bytes) == [c]) = (x == c) := fun c => by
    by_cases q : x = c
    · rw [q, beq_self_eq_true, beq_self_eq_true]
    · rw [beq_eq_false_iff_ne.mpr q, beq_eq_false_iff_ne.mpr fun z => q (List.cons.inj z).1]
  unfold sizeT sizes
  rw [show Sf47.txt "I" = [73] from by decide +kernel, show Sf47.txt "Q" = [81] from by decide +kernel, show Sf47.txt "M" = [77] from by decide +kernel, show Sf47.txt "T" = [84] from by decide +kernel,
    show Sf47.txt "C" = [67] from by decide +kernel, show Sf47.txt "W" = [87] from by decide +kernel, show Sf47.txt "E" = [69] from by decide +kernel, show Sf47.txt "V" = [86] from by decide +kernel]
  simp only [List.lookup_cons, e]
  cases x == 73 <;> cases x == 81 <;> cases x == 77 <;> cases x == 84 <;> cases x == 67 <;> cases x == 87 <;> cases x == 69 <;> cases x == 86 <;> rfl
theorem const_look (w : Bytes) : constT.lookup w = if w = Sf47.txt "TRUE" then some 1 else if w = Sf47.txt "FALSE" then some 0 else none := by
  unfold constT
  simp only [List.lookup_cons]
  by_cases t : w = Sf47.txt "TRUE"
  · subst t
    decide +kernel
  · by_cases f : w = Sf47.txt "FALSE"
    · subst f
      decide +kernel
    · rw [if_neg t, if_neg f, beq_eq_false_iff_ne.mpr t, beq_eq_false_iff_ne.mpr f]
      rfl
/-- a table of numbers of the top -/
def NumTab (K : PySem.W.Frag) (w : World) (mg : Str → Option Value) (x : Str) (ps : List (Bytes × Int)) : Prop := ∃ d, mg x = some (.ref d) ∧ KTab K w d L2.RelV (ps.map fun p => (S p.1, V.int p.2))
/-- a table of tuples of texts -/
def TupTab (K : PySem.W.Frag) (w : World) (mg : Str → Option Value) (x : Str) (ps : List (Bytes × List Bytes)) : Prop := ∃ d, mg x = some (.ref d) ∧ KTab K w d (fun ks u => KTup K (ks.map fun b => V.str (S b)) u) (ps.map fun p => (S p.1, p.2))
/-- a tuple of texts of the top -/
def TupC (K : PySem.W.Frag) (mg : Str → Option Value) (x : Str) (ks : List Bytes) : Prop := ∃ u, mg x = some u ∧ KTup K (ks.map fun b => V.str (S b)) u
theorem in_strs (k : Bytes) : ∀ ks : List Bytes, inV (.str (S k)) (ks.map fun b => V.str (S b)) = ks.contains k
  | [] => rfl
  | a :: r => by
    have ih := in_strs k r
    unfold inV at ih ⊢
    rw [List.map_cons, List.any_cons, ih, List.contains_cons]
    have e : eqV (.str (S a)) (.str (S k)) = (k == a) := by
      show (S a == S k) = (k == a)
      by_cases c : k = a
      · rw [c, beq_self_eq_true, beq_self_eq_true]
      · rw [beq_eq_false_iff_ne.mpr c, beq_eq_false_iff_ne.mpr fun z => c (S_inj z).symm]
    rw [e]
theorem flat_strs (ks : List Bytes) : (ks.map fun b => V.str (S b)).all flatV = true := by
  rw [List.all_map]
  exact List.all_eq_true.mpr fun _ _ => rfl
theorem cut_tail (x : UInt8) (d : Bytes) : cutS (S (x :: d)) (some 1) none = S d := by
  unfold cutS
  rw [HT.sIx_none, show (some (1 : Int)) = some ((1 : Nat) : Int) from rfl, HT.sIx_nat, S_len, List.length_cons, show min 1 (d.length + 1) = 1 from by omega, S_list]
  show (⟨((d.map UInt8.toNat).take (d.length + 1 - 1)).toArray⟩ : Str) = S d
  rw [List.take_of_length_le (by rw [List.length_map]; omega)]
  rfl
section
variable {P : Program} {w : World} {K : PySem.W.Frag} {mg : Str → Option Value} {base : Heap} {CU : Addr}
/-! ### named_value -/
def spNamed : Sp := fun vs H Q _ => ∃ (x : UInt8) (d : Bytes), vs = [.str (S (x :: d))] ∧ (x :: d).length ≤ 500 ∧ (∀ c ∈ d, Sf47.inWord c = true) ∧ (nameKV (x :: d) = none → Q .non H) ∧
  (∀ k z, nameKV (x :: d) = some (k, z) → ∀ p, H p = none → Q (.ref p) (upd H p (.tup [.str (S k), .int z])))
theorem sc_nmv : FnScope ["word", "kind", "digits", "number"] ["word"] (defScope s_named_value) := ⟨rfl, rfl, rfl, by decide +kernel, rfl, by decide +kernel, by decide +kernel⟩
theorem ok_named {f : Addr} {fd : FuncData} (F : Fun K "named_value" "named_value" s_named_value f fd) (C : NumTab K w mg "CONSTANTS" constT) (Z : NumTab K w mg "SIZES" sizeT) (hi : mg "int" = none)
    (N : Df P w K mg base CX0 1 "is_plain_number" ["digits"] spPlain) : FnOk P w K mg base CX0 2 f fd ["word"] spNamed := by
  obtain ⟨fN, fdN, mN, kN, bN, FN⟩ := N
  obtain ⟨dC, mC, TC⟩ := C
  obtain ⟨dZ, mZ, TZ⟩ := Z
  have hR : ∀ (b : V) (u : Value), L2.RelV b u → ∃ v, L2.RelV v u := fun b u r => ⟨b, r⟩
  refine F.ok sc_nmv (fun vs H Q E h => ?_) (fun cdv A outer s H vs Q E hr h => ?_)
  · obtain ⟨x, d, rfl, _⟩ := h
    rfl
  · refine ⟨_, pss_cons (ps_if (pt_cmpR (op_in_tab TC) (pv 0) (pe_glob (v := .ref dC) (by rfl) mC rfl) (by rfl)) (pss_one (ps_ret (pe_tup (pa_cons pe_str (pa_cons (pe_ix (ix_tab TC hR) (pe_glob (v := .ref dC) (by rfl) mC rfl) (pv 0) (fun _ _ => rfl)) pa_nil))))) pss_nil)
      (pss_cons (ps_set (i := 1) sc_nmv.nd rfl (Or.inl rfl) (pe_ix ix_str (pv 0) pe_int (fun _ _ => rfl)))
      (pss_cons (ps_set (i := 2) sc_nmv.nd rfl (Or.inl rfl) (pe_slice sl_str (pv 0) (po_some pe_int) po_none))
      (pss_cons (ps_if (PW.pt (pw_or (pt_cmpR (op_notIn_tab TZ) (pv 1) (pe_glob (v := .ref dZ) (by rfl) mZ rfl) (by rfl)) (pw_or1 (pt_not (pt_val (pe_call FN hr (by rfl) mN kN bN .nil pass0 (pa_cons (pv 2) pa_nil)))))))
        (pss_one (ps_ret pe_non)) pss_nil)
      (pss_cons (ps_set (i := 3) sc_nmv.nd rfl (Or.inl rfl) (pe_callTy call_int_str (by rfl) hi (by decide +kernel) (pa_cons (pv 2) pa_nil)))
      (pss_cons (ps_if (pt_cmpR op_ge (pv 3) (pe_ix (ix_tab TZ hR) (pe_glob (v := .ref dZ) (by rfl) mZ rfl) (pv 1) (fun _ _ => rfl)) (nomark _)) (pss_one (ps_ret pe_non)) pss_nil)
      (pss_one (ps_ret (pe_tup (pa_cons (pv 1) (pa_cons (pv 3) pa_nil)))))))))), ?_⟩
    obtain ⟨x, d, rfl, hl, hd, kN, kS⟩ := h
    have hz : (S (x :: d)).length ≤ sizeLine := by rw [S_len]; exact Nat.le_trans hl (by decide)
    have hc := const_look (x :: d)
    have hcS := lookup_S V.int (x :: d) constT
    rw [hc] at hcS
    unfold nameKV at kN kS
    refine ⟨_, rfl, rfl, .inl ⟨_, rfl, _, rfl, ?_⟩⟩
    rw [hcS, Bool.bne_false]
    by_cases t : x :: d = Sf47.txt "TRUE"
    · rw [if_pos t] at kS
      rw [if_pos t] at hcS ⊢
      refine iteT ⟨_, rfl, _, V.int 1, rfl, rfl, hcS, fun v u r1 r2 => ?_⟩
      rw [← relV_inj r1 r2]
      exact ⟨by show 2 ≤ sizeLine; decide, fun p np => kS _ _ rfl p np⟩
    rw [if_neg t] at kN kS
    rw [if_neg t] at hcS ⊢
    by_cases f : x :: d = Sf47.txt "FALSE"
    · rw [if_pos f] at kS
      rw [if_pos f] at hcS ⊢
      refine iteT ⟨_, rfl, _, V.int 0, rfl, rfl, hcS, fun v u r1 r2 => ?_⟩
      rw [← relV_inj r1 r2]
      exact ⟨by show 2 ≤ sizeLine; decide, fun p np => kS _ _ rfl p np⟩
    rw [if_neg f] at kN kS
    dsimp only at kN kS
    rw [if_neg f] at hcS ⊢
    refine iteF ?_
    refine ⟨_, rfl, _, _, x.toNat, rfl, rfl, hz, S_at (k := 0) rfl, ?_⟩
    refine ⟨_, rfl, _, rfl, _, rfl, hz, ?_⟩
    rw [cut_tail]
    have hsz := lookup_S V.int [x] sizeT
    rw [size_look] at hsz
    have ex : (⟨#[x.toNat]⟩ : Str) = S [x] := rfl
    rw [ex]
    refine ⟨_, rfl, rfl, .inl ⟨_, rfl, _, rfl, ?_⟩⟩
    rw [hsz, Bool.bne_true]
    cases hx : sizes.lookup x with
    | none =>
      rw [hx] at kN
      exact iteT (iteT (kN rfl))
    | some most =>
      rw [hx] at kN kS hsz
      have kN : (if SlM.plain d = true then (if Sf47.number d < most then some ([x], (Sf47.number d : Int)) else none) else none) = none → Q .non H := kN
      have kS : ∀ k z, (if SlM.plain d = true then (if Sf47.number d < most then some (([x] : Bytes), (Sf47.number d : Int)) else none) else none) = some (k, z) → ∀ p, H p = none → Q (.ref p) (upd H p (.tup [.str (S k), .int z])) := kS
      refine iteF ?_
      refine ⟨_, rfl, d, rfl, by rw [List.length_cons] at hl; omega, hd, _, rfl, ?_⟩
      by_cases pl : SlM.plain d = true
      · rw [if_pos pl] at kN kS
        rw [pl]
        refine iteF ?_
        have nt : NumText d := ⟨d, ((plain_iff d).mp pl).1, ((plain_iff d).mp pl).2.1, .inl rfl⟩
        have nv : numVal d = (Sf47.number d : Int) := digit_head ((plain_iff d).mp pl).2.1 ((plain_iff d).mp pl).1
        rw [List.length_cons] at hl
        refine ⟨_, rfl, _, _, rfl, int_text nt (by omega), by rw [S_len]; omega, ?_⟩
        rw [nv]
        refine ⟨_, rfl, _, rfl, _, V.int most, rfl, rfl, hsz, fun v u r1 r2 => ?_⟩
        rw [← relV_inj r1 r2]
        refine ⟨_, _, rfl, rfl, _, rfl, ?_⟩
        refine ite2 (fun c => kN (if_neg ?_)) (fun c => ?_)
        · have := of_decide_eq_true c
          omega
        · have lt : Sf47.number d < most := by
            by_cases z : Sf47.number d < most
            · exact z
            · exact absurd (decide_eq_true (by omega)) c
          exact ⟨_, rfl, _, rfl, by show 2 ≤ sizeLine; decide, fun p np => kS _ _ (if_pos lt) p np⟩
      · rw [if_neg pl] at kN
        rw [Bool.eq_false_iff.mpr pl]
        exact iteT (kN rfl)
/-! ### value_of, label_of -/
def spValue (CU : Addr) : Sp := fun vs H Q E => ∃ s : Sf47.Sign, vs = [sv s] ∧ Proper s ∧ (valueOf s = none → E (.ref CU) none H) ∧ (∀ k z, valueOf s = some (k, z) → ∀ p, H p = none → Q (.ref p) (upd H p (.tup [.str (S k), .int z])))
theorem sc_val : FnScope ["sign", "value"] ["sign"] (defScope s_value_of) := ⟨rfl, rfl, rfl, by decide +kernel, rfl, by decide +kernel, by decide +kernel⟩
theorem ok_value {f : Addr} {fd : FuncData} (F : Fun K "value_of" "value_of" s_value_of f fd) (U : UnTxt K mg CU) (hi : mg "isinstance" = none) (hn : mg "int" = none) (N : Df P w K mg base CX0 2 "named_value" ["word"] spNamed) : FnOk P w K mg base (L2N.CX P w) 3 f fd ["sign"] (spValue CU) := by
  obtain ⟨fN, fdN, mN, kN, bN, FN⟩ := N
  refine okN F sc_val (fun vs H Q E h => ?_) (fun cdv A outer s H vs Q E hr h => ?_)
  · obtain ⟨s, rfl, _⟩ := h
    rfl
  · refine ⟨_, pss_cons (ps_if (pt_val (pe_callB call_isi (by rfl) hi (by decide +kernel) (pa_cons (pv 0) (pa_cons (pe_bltn (v := .ty "int") (by rfl) hn (by decide +kernel) rfl) pa_nil)))) (pss_one (ps_ret (pe_tup (pa_cons pe_str (pa_cons (pv 0) pa_nil))))) pss_nil)
      (pss_cons (ps_set (i := 1) sc_val.nd rfl (Or.inl rfl) (pe_call FN hr (by rfl) mN kN bN .nil pass0 (pa_cons (pv 0) pa_nil)))
      (pss_cons (ps_if (pt_cmpR op_isN (pv 1) pe_non (nomark _)) (pss_one (L2N.ps_raise rfl (L2N.takes_of rfl rfl rfl rfl) (pmk_bare PySem.F.excBase_Exception U.xF U.gF U.kF (raises_own U.bF U.tF) (by rfl)))) pss_nil)
      (pss_one (ps_ret (pv 1))))), ?_⟩
    obtain ⟨sn, rfl, hp, kF, kS⟩ := h
    have tx : ∀ (x : UInt8) (d : Bytes), sv sn = .str (S (x :: d)) → (x :: d).length ≤ 500 → (∀ c ∈ d, Sf47.inWord c = true) → valueOf sn = nameKV (x :: d) →
        ∃ v, (start ["sign", "value"] [sv sn])[0]? = some (some v) ∧ ∃ (x : V) (c : V) (t u : Value) (b : Bool), [v, V.ty "int"] = [x, c] ∧ ClsV c u ∧ TyX K H x t ∧ PySem.W.kitOne K t u = some b ∧ ∃ c, V.bl b = V.bl c ∧
          if c = true then ∃ v, (start ["sign", "value"] [sv sn])[0]? = some (some v) ∧ [V.str (Str.ofString "number"), v].length ≤ sizeLine ∧ ∀ p, H p = none → Q (.ref p) (upd H p (.tup [V.str (Str.ofString "number"), v]))
          else ∃ v, (start ["sign", "value"] [sv sn])[0]? = some (some v) ∧ spNamed ([v] ++ []) H (fun x H1 => ∃ v, ((start ["sign", "value"] [sv sn]).set 1 (some x))[1]? = some (some v) ∧ V.non = V.non ∧ ∃ c, V.bl (decide (v = .non)) = V.bl c ∧
            if c = true then E (.ref CU) none H1 else ∃ v, ((start ["sign", "value"] [sv sn]).set 1 (some x))[1]? = some (some v) ∧ Q v H1) E0 := by
      intro x d e hl hd ev
      rw [ev] at kF kS
      rw [e]
      refine ⟨_, rfl, _, _, .type "str", _, false, rfl, .ty "int", .base (.str _), kit_ty (by decide +kernel), _, rfl, iteF ?_⟩
      refine ⟨_, rfl, x, d, rfl, hl, hd, fun z => ?_, fun k z hk p np => ?_⟩
      · exact ⟨_, rfl, rfl, _, rfl, iteT (kF z)⟩
      · exact ⟨_, rfl, rfl, _, rfl, if_f (decide_eq_false (by intro z; cases z)) ⟨_, rfl, kS k z hk p np⟩⟩
    cases sn with
    | word w =>
      obtain ⟨c, r, rfl, hb, hi, hl⟩ := hp
      exact tx c r rfl (Nat.le_trans hl (by decide)) hi rfl
    | num z =>
      refine ⟨_, rfl, _, _, .type "int", _, true, rfl, .ty "int", .base (.int _), kit_ty (by decide +kernel), _, rfl, iteT ?_⟩
      refine ⟨_, rfl, by show 2 ≤ sizeLine; decide, fun p np => ?_⟩
      have q := kS _ _ rfl p np
      rw [← S_txt "number"] at q
      exact q
    | colon => exact tx 58 [] rfl (by decide) (by simp) (by decide +kernel)
    | open_ => exact tx 40 [] rfl (by decide) (by simp) (by decide +kernel)
    | close => exact tx 41 [] rfl (by decide) (by simp) (by decide +kernel)
def spLabelOf (CU : Addr) : Sp := fun vs H Q E => ∃ s : Sf47.Sign, vs = [sv s] ∧ Proper s ∧ (isW s = false → E (.ref CU) none H) ∧ (∀ w, s = .word w → ∀ p, H p = none → Q (.ref p) (upd H p (.tup [.str (S (Sf47.txt "label")), .str (S w)])))
theorem sc_lbo : FnScope ["sign"] ["sign"] (defScope s_label_of) := ⟨rfl, rfl, rfl, by decide +kernel, rfl, by decide +kernel, by decide +kernel⟩
theorem ok_labelOf {f : Addr} {fd : FuncData} (F : Fun K "label_of" "label_of" s_label_of f fd) (U : UnTxt K mg CU) (N : Df P w K mg base CX0 1 "is_word" ["sign"] spIsWord) : FnOk P w K mg base (L2N.CX P w) 2 f fd ["sign"] (spLabelOf CU) := by
  obtain ⟨fN, fdN, mN, kN, bN, FN⟩ := N
  refine okN F sc_lbo (fun vs H Q E h => ?_) (fun cdv A outer s H vs Q E hr h => ?_)
  · obtain ⟨s, rfl, _⟩ := h
    rfl
  · refine ⟨_, pss_cons (ps_if (pt_not (pt_val (pe_call FN hr (by rfl) mN kN bN .nil pass0 (pa_cons (pv 0) pa_nil)))) (pss_one (L2N.ps_raise rfl (L2N.takes_of rfl rfl rfl rfl) (pmk_bare PySem.F.excBase_Exception U.xF U.gF U.kF (raises_own U.bF U.tF) (by rfl)))) pss_nil)
      (pss_one (ps_ret (pe_tup (pa_cons pe_str (pa_cons (pv 0) pa_nil))))), ?_⟩
    obtain ⟨sn, rfl, hp, kF, kS⟩ := h
    refine ⟨_, rfl, sn, rfl, hp, _, rfl, ?_⟩
    cases sn with
    | word w =>
      refine iteF ⟨_, rfl, by show 2 ≤ sizeLine; decide, fun p np => ?_⟩
      have q := kS w rfl p np
      rw [← S_txt "label"] at q
      exact q
    | _ => exact iteT (kF rfl)
end
end Sl
set_option Elab.async false
set_option linter.all false
set_option maxRecDepth 100000
set_option maxHeartbeats 4000000
namespace Sl
open PySem PySem.Spec PyProof.Rows L2 SlM
def opdV : Opd → List V
  | (k, .inl w) => [.str (S k), .str (S w)]
  | (k, .inr z) => [.str (S k), .int z]
theorem same_upd {H H' : Hp} {p : Addr} {o : HO} (s : Same H H') (n : H p = none) : Same H (upd H' p o) := fun b ob e => by
  rw [upd_ne (ne_of_none e n)]
  exact s b ob e
section
variable {P : Program} {w : World} {K : PySem.W.Frag} {mg : Str → Option Value} {base : Heap} {CU : Addr}
/-! ### read_operand -/
def spOpd (CU : Addr) : Sp := fun vs H Q E => ∃ (s : Sf47.Sign) (f : Bytes), vs = [sv s, .str (S f)] ∧ Proper s ∧ (kinds.lookup f).isSome = true ∧ (readOp s f = none → ∀ H', Same H H' → E (.ref CU) none H') ∧
  (∀ o, readOp s f = some o → ∀ p, H p = none → Q (.ref p) (upd H p (.tup (opdV o))))
theorem sc_opd : FnScope ["sign", "form", "operand"] ["sign", "form"] (defScope s_read_operand) := ⟨rfl, rfl, rfl, by decide +kernel, rfl, by decide +kernel, by decide +kernel⟩
theorem str_eq (a b : Bytes) : decide (V.str (S a) = V.str (S b)) = decide (a = b) := by
  by_cases q : a = b
  · rw [q, decide_eq_true rfl, decide_eq_true rfl]
  · rw [decide_eq_false q]
    exact decide_eq_false fun z => q (S_inj (V.str.inj z))
theorem ok_opd {f : Addr} {fd : FuncData} (F : Fun K "read_operand" "read_operand" s_read_operand f fd) (U : UnTxt K mg CU) (C : TupTab K w mg "KINDS" kinds)
    (L : Df P w K mg base (L2N.CX P w) 2 "label_of" ["sign"] (spLabelOf CU)) (N : Df P w K mg base (L2N.CX P w) 3 "value_of" ["sign"] (spValue CU)) : FnOk P w K mg base (L2N.CX P w) 4 f fd ["sign", "form"] (spOpd CU) := by
  obtain ⟨fL, fdL, mL, kL, bL, FL⟩ := L
  obtain ⟨fN, fdN, mN, kN, bN, FN⟩ := N
  obtain ⟨dC, mC, TC⟩ := C
  have hR : ∀ (b : List Bytes) (u : Value), KTup K (b.map fun b => V.str (S b)) u → ∃ v, L2.RelV v u := fun b u r => by
    obtain ⟨a, e, _⟩ := r
    exact ⟨.ref a, e⟩
  refine okN F sc_opd (fun vs H Q E h => ?_) (fun cdv A outer s H vs Q E hr h => ?_)
  · obtain ⟨s, f, rfl, _⟩ := h
    rfl
  · have hr2 : Room 2 _ := hr.mono (by decide)
    refine ⟨_, pss_cons (ps_set (i := 2) sc_opd.nd rfl (Or.inl rfl) (pe_ifExp (pt_cmpR op_eq (pv 1) pe_str (nomark _))
          (pe_callS FL hr2 (by rfl) mL kL bL (fun σ => L2N.passAt (L2N.takes_of rfl rfl rfl rfl) σ) (pa_cons (pv 0) pa_nil))
          (pe_callS FN hr (by rfl) mN kN bN (fun σ => L2N.passAt (L2N.takes_of rfl rfl rfl rfl) σ) (pa_cons (pv 0) pa_nil))))
      (pss_cons (ps_if (pt_cmpR op_notIn_seq (pe_ix ix_tup (pv 2) pe_int (fun _ _ => rfl)) (pe_ix (ix_tab TC hR) (pe_glob (v := .ref dC) (by rfl) mC rfl) (pv 1) (fun _ _ => rfl)) (by rfl))
        (pss_one (L2N.ps_raise rfl (L2N.takes_of rfl rfl rfl rfl) (pmk_bare PySem.F.excBase_Exception U.xF U.gF U.kF (raises_own U.bF U.tF) (by rfl)))) pss_nil)
      (pss_cons (ps_if (PW.pt (pw_and (pt_cmpR op_eq (pv 1) pe_str (nomark _)) (pw_and1 (pt_cmpR op_lt (pe_ix ix_tup (pv 2) pe_int (fun _ _ => rfl)) pe_int (nomark _)))))
        (pss_one (L2N.ps_raise rfl (L2N.takes_of rfl rfl rfl rfl) (pmk_bare PySem.F.excBase_Exception U.xF U.gF U.kF (raises_own U.bF U.tF) (by rfl)))) pss_nil)
      (pss_one (ps_ret (pv 2))))), ?_⟩
    obtain ⟨sn, fm, rfl, hp, hk, kF, kS⟩ := h
    obtain ⟨ks, hks⟩ := Option.isSome_iff_exists.mp hk
    have hlk := lookup_S (fun ks : List Bytes => ks) fm kinds
    rw [hks] at hlk
    have hlk : (kinds.map fun p => (S p.1, p.2)).lookup (S fm) = some ks := hlk
    have hin : ∀ k, kindIn fm k = ks.contains k := fun k => by unfold kindIn; rw [hks]; rfl
    -- behind the operand: its tuple at p
    refine ⟨_, rfl, rfl, _, rfl, ?_⟩
    rw [S_txt "label", str_eq]
    unfold readOp at kF kS
    refine ite2 (fun c => ?_) (fun c => ?_)
    · have c := of_decide_eq_true c
      rw [if_pos c] at kF kS
      refine ⟨_, rfl, sn, rfl, hp, fun z => ?_, fun wd hw p np => ?_⟩
      · cases sn with
        | word wd => cases z
        | _ => exact kF rfl H (Same.refl H)
      · subst hw
        refine ⟨_, rfl, p, _, _, _, rfl, rfl, .inl (.inl upd_same), rfl, _, rfl, _, ks, rfl, rfl, hlk, fun v u r1 r2 => ?_⟩
        obtain ⟨a, rfl, ra⟩ := r1.sq (upd H p (.tup [.str (S (Sf47.txt "label")), .str (S wd)]))
        cases (relV_inj (a := .ref a) rfl r2)
        refine ⟨a, _, rfl, .inr ra, rfl, flat_strs ks, _, rfl, ?_⟩
        have hc : ks.contains (Sf47.txt "label") = true := by
          rw [← hin, c]
          decide +kernel
        show (if (!inV (V.str (S (Sf47.txt "label"))) (ks.map fun b => V.str (S b))) = true then _ else _)
        rw [in_strs, hc]
        refine iteF ?_
        refine ⟨_, rfl, rfl, _, rfl, ?_⟩
        rw [S_txt "duration", str_eq]
        refine if_f (decide_eq_false (by rw [c]; decide +kernel)) (iteF ⟨_, rfl, kS _ rfl p np⟩)
    · have c : ¬ fm = Sf47.txt "label" := fun z => c (decide_eq_true z)
      rw [if_neg c] at kF kS
      refine ⟨_, rfl, sn, rfl, hp, fun z => ?_, fun k z hz p np => ?_⟩
      · rw [z] at kF
        exact kF rfl H (Same.refl H)
      · rw [hz, Option.bind_some] at kF kS
        refine ⟨_, rfl, p, _, _, _, rfl, rfl, .inl (.inl upd_same), rfl, _, rfl, _, ks, rfl, rfl, hlk, fun v u r1 r2 => ?_⟩
        obtain ⟨a, rfl, ra⟩ := r1.sq (upd H p (.tup [.str (S k), .int z]))
        cases (relV_inj (a := .ref a) rfl r2)
        refine ⟨a, _, rfl, .inr ra, rfl, flat_strs ks, _, rfl, ?_⟩
        show (if (!inV (V.str (S k)) (ks.map fun b => V.str (S b))) = true then _ else _)
        rw [in_strs, ← hin]
        by_cases ki : kindIn fm k = true
        · rw [ki]
          dsimp only at kF kS
          rw [if_pos ki] at kF kS
          refine iteF ?_
          refine ⟨_, rfl, rfl, _, rfl, ?_⟩
          rw [S_txt "duration", str_eq]
          by_cases fd : fm = Sf47.txt "duration"
          · refine if_t (decide_eq_true fd) ?_
            refine ⟨_, rfl, p, _, _, _, rfl, rfl, .inl (.inl upd_same), rfl, _, _, rfl, rfl, _, rfl, ?_⟩
            refine ite2 (fun c2 => kF (if_pos ⟨fd, of_decide_eq_true c2⟩) _ (same_upd (Same.refl H) np)) (fun c2 => ?_)
            exact ⟨_, rfl, kS _ (if_neg fun q => c2 (decide_eq_true q.2)) p np⟩
          · exact if_f (decide_eq_false fd) (iteF ⟨_, rfl, kS _ (if_neg fun q => fd q.1) p np⟩)
        · rw [Bool.eq_false_iff.mpr ki]
          dsimp only at kF
          rw [if_neg ki] at kF
          exact iteT (kF rfl _ (same_upd (Same.refl H) np))
/-! ### read_label -/
def spLabel (CU : Addr) : Sp := fun vs H Q E => ∃ s : Sf47.Sign, vs = [sv s] ∧ Proper s ∧ ((∀ w, s = .word w → Sf47.taken w = true) → ∀ H', Same H H' → E (.ref CU) none H') ∧ (∀ w, s = .word w → Sf47.taken w = false → ∀ H', Same H H' → Q (.str (S w)) H')
theorem sc_rlb : FnScope ["sign"] ["sign"] (defScope s_read_label) := ⟨rfl, rfl, rfl, by decide +kernel, rfl, by decide +kernel, by decide +kernel⟩
theorem taken_is (w : Bytes) : Sf47.taken w = (nameKV w).isSome := by
  rw [name_is, Option.isSome_map]
  rfl
theorem ok_label {f : Addr} {fd : FuncData} (F : Fun K "read_label" "read_label" s_read_label f fd) (U : UnTxt K mg CU) (W : Df P w K mg base CX0 1 "is_word" ["sign"] spIsWord) (N : Df P w K mg base CX0 2 "named_value" ["word"] spNamed) : FnOk P w K mg base (L2N.CX P w) 3 f fd ["sign"] (spLabel CU) := by
  obtain ⟨fW, fdW, mW, kW, bW, FW⟩ := W
  obtain ⟨fN, fdN, mN, kN, bN, FN⟩ := N
  refine okN F sc_rlb (fun vs H Q E h => ?_) (fun cdv A outer s H vs Q E hr h => ?_)
  · obtain ⟨s, rfl, _⟩ := h
    rfl
  · have hr2 : Room 1 _ := hr.mono (by decide)
    refine ⟨_, pss_cons (ps_if (PW.pt (pw_or (pt_not (pt_val (pe_call FW hr2 (by rfl) mW kW bW .nil pass0 (pa_cons (pv 0) pa_nil)))) (pw_or1 (pt_cmpR op_notN (pe_call FN hr (by rfl) mN kN bN .nil pass0 (pa_cons (pv 0) pa_nil)) pe_non (nomark _)))))
        (pss_one (L2N.ps_raise rfl (L2N.takes_of rfl rfl rfl rfl) (pmk_bare PySem.F.excBase_Exception U.xF U.gF U.kF (raises_own U.bF U.tF) (by rfl)))) pss_nil)
      (pss_one (ps_ret (pv 0))), ?_⟩
    obtain ⟨sn, rfl, hp, kF, kS⟩ := h
    refine ⟨_, rfl, sn, rfl, hp, _, rfl, ?_⟩
    cases sn with
    | word wd =>
      refine iteF ?_
      obtain ⟨c, r, rfl, hb, hi, hl⟩ := id hp
      refine ⟨_, rfl, c, r, rfl, Nat.le_trans hl (by decide), hi, fun z => ?_, fun k z hk p np => ?_⟩
      · refine ⟨rfl, _, rfl, iteF ⟨_, rfl, kS _ rfl ?_ H (Same.refl H)⟩⟩
        rw [taken_is, z]
        rfl
      · refine ⟨rfl, _, rfl, if_t ?_ (kF (fun w hw => ?_) _ (same_upd (Same.refl H) np))⟩
        · rw [decide_eq_false (by intro z; cases z)]
          rfl
        · cases hw
          rw [taken_is, hk]
          rfl
    | _ => exact iteT (iteT (kF (fun w hw => by cases hw) H (Same.refl H)))
end
end Sl
set_option Elab.async false
set_option linter.all false
set_option maxRecDepth 100000
set_option maxHeartbeats 4000000
namespace Sl
open PySem PySem.Spec PyProof.Rows L2 SlM
theorem ops_append : ∀ (s1 : List Sf47.Sign) (f1 : List Bytes) (s2 : List Sf47.Sign) (f2 : List Bytes), s1.length = f1.length → readOps (s1 ++ s2) (f1 ++ f2) = (readOps s1 f1).bind fun l => (readOps s2 f2).map fun m => l ++ m
  | [], [], s2, f2, _ => by
    show readOps s2 f2 = (readOps s2 f2).map _
    cases readOps s2 f2 <;> rfl
  | [], _ :: _, _, _, h => by simp at h
  | _ :: _, [], _, _, h => by simp at h
  | s :: s1, f :: f1, s2, f2, h => by
    show (readOp s f).bind (fun o => (readOps (s1 ++ s2) (f1 ++ f2)).map fun l => o :: l) = ((readOp s f).bind fun o => (readOps s1 f1).map fun l => o :: l).bind _
    rw [ops_append s1 f1 s2 f2 (by simpa using h)]
    cases readOp s f with
    | none => rfl
    | some o =>
      cases readOps s1 f1 with
      | none => rfl
      | some l => cases readOps s2 f2 <;> rfl
theorem ops_at {ss : List Sf47.Sign} {fs : List Bytes} {i : Nat} {s : Sf47.Sign} {f : Bytes} (hl : ss.length = fs.length) (hs : ss[i]? = some s) (hf : fs[i]? = some f) :
    readOps (ss.take (i + 1)) (fs.take (i + 1)) = ((readOps (ss.take i) (fs.take i)).bind fun l => (readOp s f).map fun o => l ++ [o]) := by
  rw [List.take_succ, List.take_succ, hs, hf]
  show readOps (ss.take i ++ [s]) (fs.take i ++ [f]) = _
  rw [ops_append _ _ _ _ (by rw [List.length_take, List.length_take, hl]), ops_one]
  cases readOps (ss.take i) (fs.take i) with
  | none => rfl
  | some l => cases readOp s f <;> rfl
theorem ops_part {ss : List Sf47.Sign} {fs : List Bytes} (i : Nat) (hl : ss.length = fs.length) (h : readOps (ss.take i) (fs.take i) = none) : readOps ss fs = none := by
  rw [← List.take_append_drop i ss, ← List.take_append_drop i fs, ops_append _ _ _ _ (by rw [List.length_take, List.length_take, hl]), h]
  rfl
def OpsAt (H : Hp) (p : Addr) (os : List Opd) : Prop := ∃ rs : List Addr, H p = some (.lst (rs.map V.ref)) ∧ Paired (fun r o => H r = some (.tup (opdV o))) rs os
theorem paired_snoc {α β : Type} {R : α → β → Prop} {a : α} {b : β} (h : R a b) : ∀ {l : List α} {m : List β}, Paired R l m → Paired R (l ++ [a]) (m ++ [b])
  | _, _, .nil => .cons h .nil
  | _, _, .cons r t => .cons r (paired_snoc h t)
theorem walk_zipM {K : PySem.W.Frag} {a b : Addr} {xs ys : List V} (hl : xs.length = ys.length) : Walk (ItzM K a b) xs.length (fun H => SqL K H a xs ∧ SqT K H b ys) (YPair (fun i => xs[i]?) (fun i => ys[i]?)) := by
  refine ⟨fun i _ hi q => ?_, fun _ q => ⟨xs, ys, q.1, q.2, rfl, hl⟩, fun _ _ _ _ _ q ⟨T, x, z, new, free, is, atx, aty⟩ => ⟨T, x, z, new, free, is, atx xs q.1, aty ys q.2⟩⟩
  have hi2 : i < ys.length := hl ▸ hi
  exact ⟨xs, ys, xs[i], ys[i], q.1, q.2, List.getElem?_eq_getElem hi, List.getElem?_eq_getElem hi2⟩
theorem same_tup {K : PySem.W.Frag} {H H' : Hp} {a : Addr} {xs : List V} (e : Same H H') (h : SqT K H a xs) : SqT K H' a xs := h.imp_left (Or.imp (e _ _) (Exists.imp fun _ => e _ _))
section
variable {P : Program} {w : World} {K : PySem.W.Frag} {mg : Str → Option Value} {base : Heap} {CU : Addr}
def spOps (K : PySem.W.Frag) (CU : Addr) : Sp := fun vs H Q E => ∃ (a b : Addr) (ss : List Sf47.Sign) (fs : List Bytes), vs = [.ref a, .ref b] ∧ SqL K H a (ss.map sv) ∧ SqT K H b (fs.map fun f => V.str (S f)) ∧ (∀ s ∈ ss, Proper s) ∧ (∀ f ∈ fs, (kinds.lookup f).isSome = true) ∧ fs.length ≤ 1000 ∧
  (readOps ss fs = none → ∀ H', Same H H' → E (.ref CU) none H') ∧ (∀ os, readOps ss fs = some os → ∀ H' p, Same H H' → H p = none → OpsAt H' p os → Q (.ref p) H')
theorem sc_ops : FnScope ["signs", "forms", "sign", "form"] ["signs", "forms"] (defScope s_read_operands) := ⟨rfl, rfl, rfl, by decide +kernel, rfl, by decide +kernel, by decide +kernel⟩
theorem ok_ops {f : Addr} {fd : FuncData} (F : Fun K "read_operands" "read_operands" s_read_operands f fd) (U : UnTxt K mg CU) (hl : mg "len" = none) (hz : mg "zip" = none)
    (O : Df P w K mg base (L2N.CX P w) 4 "read_operand" ["sign", "form"] (spOpd CU)) : FnOk P w K mg base (L2N.CX P w) 5 f fd ["signs", "forms"] (spOps K CU) := by
  obtain ⟨fO, fdO, mO, kO, bO, FO⟩ := O
  refine okN F sc_ops (fun vs H Q E h => ?_) (fun cdv A outer s H vs Q E hr h => ?_)
  · obtain ⟨a, b, ss, fs, rfl, _⟩ := h
    rfl
  · refine ⟨_, pss_cons (ps_if (pt_cmpR op_ne (pe_callB call_len_seq (by rfl) hl PySem.boot_len (pa_cons (pv 0) pa_nil)) (pe_callB call_len_seq (by rfl) hl PySem.boot_len (pa_cons (pv 1) pa_nil)) (nomark _))
        (pss_one (L2N.ps_raise rfl (L2N.takes_of rfl rfl rfl rfl) (pmk_bare PySem.F.excBase_Exception U.xF U.gF U.kF (raises_own U.bF U.tF) (by rfl)))) pss_nil)
      (pss_one (ps_ret (pe_lcX (WB := E) (own := [("sign", 2), ("form", 3)]) (g := gTup K 2 (gCons (gName 2) (gCons (gName 3) gNil))) (tt := tYes) rfl rfl rfl (L2N.takes_of rfl rfl rfl rfl) sc_ops.nd
        (pi_zipM (by rfl) hz (pa_cons (pv 0) (pa_cons (pv 1) pa_nil))) (blkOk_by (own := [("sign", 2), ("form", 3)]) (N := ["signs", "forms", "sign", "form"]) (sc := defScope s_read_operands) (by decide +kernel))
        (fun _ _ _ _ _ => pg_tup rfl (pgs_cons (pg_name (i := 2) sc_ops.nd rfl (Or.inl rfl)) (pgs_cons (pg_name (i := 3) sc_ops.nd rfl (Or.inl rfl)) pgs_nil)))
        (fun _ _ _ _ _ => pts_nil) (fun _ _ _ _ _ => pe_callS (E := fun _ => E) FO hr (by rfl) mO kO bO (fun σ => pass_blk σ) (pa_cons (pv 2) (pa_cons (pv 3) pa_nil)))))), ?_⟩
    obtain ⟨a, b, ss, fs, rfl, hS, hT, hp, hk, hlen, kF, kS⟩ := h
    refine ⟨_, rfl, a, _, rfl, .inl hS, _, rfl, b, _, rfl, .inr hT, rfl, _, rfl, ?_⟩
    rw [int_eq, List.length_map, List.length_map]
    by_cases c : ss.length = fs.length
    · refine if_f (by rw [decide_eq_true (by omega)]; rfl) ?_
      refine ⟨_, rfl, _, rfl, a, b, _, _, rfl, hS, hT, fun D nD => ?_⟩
      refine lc_it (walk_zipM (xs := ss.map sv) (ys := fs.map fun f => V.str (S f)) (by rw [List.length_map, List.length_map]; exact c)) (fun i H' => ∃ rs os, H' D = some (.lst (rs.map V.ref)) ∧ Paired (fun r o => H' r = some (.tup (opdV o))) rs os ∧ readOps (ss.take i) (fs.take i) = some os ∧ Same H H' ∧ rs.length ≤ i)
        ⟨[], [], upd_same, .nil, rfl, same_upd (Same.refl H) nD, Nat.le_refl _⟩ (fun i H' _ h => ?_) ?_ ?_
      · obtain ⟨rs, os, _, _, _, sm, _⟩ := h
        exact ⟨sm.seq hS, same_tup sm hT⟩
      · rintro i x H1 H2 hi ⟨rs, os, h1, h2, h3, h4, h5⟩ ⟨T, x1, x2, rfl, nT, rfl, e1, e2⟩
        dsimp only at e1 e2
        rw [List.getElem?_map] at e1 e2
        obtain ⟨sn, hsn, rfl⟩ := Option.map_eq_some_iff.mp e1
        obtain ⟨fm, hfm, rfl⟩ := Option.map_eq_some_iff.mp e2
        have neT : D ≠ T := fun z => by rw [z, nT] at h1; cases h1
        have sT : Same H1 (upd H1 T (.tup [sv sn, .str (S fm)])) := same_upd (Same.refl H1) nT
        refine ⟨T, _, rfl, .inl (.inl upd_same), rfl, _, _, rfl, _, _, rfl, rfl, ?_⟩
        refine ⟨rfl, ?_⟩
        dsimp only [tYes]
        rw [if_pos rfl]
        have st := ops_at c hsn hfm
        rw [h3, Option.bind_some] at st
        refine ⟨_, rfl, _, rfl, sn, fm, rfl, hp sn (List.mem_of_getElem? hsn), hk fm (List.mem_of_getElem? hfm), fun z H3 s3 => ?_, fun o ho p np => ?_⟩
        · rw [z] at st
          exact kF (ops_part (i + 1) c st) H3 (h4.trans (sT.trans s3))
        · rw [ho] at st
          have npH1 : H1 p = none := sT.free np
          have neP : D ≠ p := fun z => by rw [← z, h1] at npH1; cases npH1
          refine ⟨_, by rw [upd_ne neP, upd_ne neT]; exact h1, by rw [List.length_map]; exact Nat.lt_of_le_of_lt h5 (Nat.lt_of_lt_of_le hi (by rw [List.length_map, c]; exact Nat.le_trans hlen (by decide))), ?_⟩
          have nD1 : ∀ r o, H1 r = some (.tup (opdV o)) → r ≠ D := fun r o e z => by rw [z, h1] at e; cases e
          have sp : Same H1 (upd (upd H1 T (.tup [sv sn, .str (S fm)])) p (.tup (opdV o))) := same_upd sT npH1
          refine ⟨rs ++ [p], os ++ [o], ?_, ?_, st, fun x ob e => ?_, by rw [List.length_append, List.length_singleton]; omega⟩
          · rw [upd_same, List.map_append]
            rfl
          · refine paired_snoc ?_ (Paired.mapP h2 fun r o e => ?_)
            · rw [upd_ne (Ne.symm neP), upd_same]
            · rw [upd_ne (nD1 r o e)]
              exact sp _ _ e
          · have hx : x ≠ D := ne_of_none e nD
            rw [upd_ne hx]
            exact sp _ _ (h4 x ob e)
      · rintro H1 ⟨rs, os, h1, h2, h3, h4, h5⟩
        rw [List.length_map] at h3
        rw [List.take_length, c, List.take_length] at h3
        exact kS os h3 H1 D h4 nD ⟨rs, h1, h2⟩
    · refine if_t (by rw [decide_eq_false (by omega)]; rfl) (kF (ops_len c) H (Same.refl H))
/-! ### read_put_off -/
def putOps (n : Bytes) (ss : List Sf47.Sign) : Option (List Opd) := if putOff.contains n = true then readOps ss [Sf47.txt "any"] else none
def spPut (K : PySem.W.Frag) (CU : Addr) : Sp := fun vs H Q E => ∃ (n : Bytes) (a : Addr) (ss : List Sf47.Sign), vs = [.str (S n), .ref a] ∧ SqL K H a (ss.map sv) ∧ (∀ s ∈ ss, Proper s) ∧
  (putOps n ss = none → ∀ H', Same H H' → E (.ref CU) none H') ∧ (∀ os, putOps n ss = some os → ∀ H' p, Same H H' → H p = none → OpsAt H' p os → Q (.ref p) H')
theorem sc_put : FnScope ["name", "signs"] ["name", "signs"] (defScope s_read_put_off) := ⟨rfl, rfl, rfl, by decide +kernel, rfl, by decide +kernel, by decide +kernel⟩
theorem ok_put {f : Addr} {fd : FuncData} (F : Fun K "read_put_off" "read_put_off" s_read_put_off f fd) (U : UnTxt K mg CU) (C : TupC K mg "MAY_BE_PUT_OFF" putOff)
    (O : Df P w K mg base (L2N.CX P w) 5 "read_operands" ["signs", "forms"] (spOps K CU)) : FnOk P w K mg base (L2N.CX P w) 6 f fd ["name", "signs"] (spPut K CU) := by
  obtain ⟨fO, fdO, mO, kO, bO, FO⟩ := O
  obtain ⟨uC, mC, tC⟩ := C
  obtain ⟨aC, rfl, qC⟩ := id tC
  refine okN F sc_put (fun vs H Q E h => ?_) (fun cdv A outer s H vs Q E hr h => ?_)
  · obtain ⟨n, a, ss, rfl, _⟩ := h
    rfl
  · refine ⟨_, pss_cons (ps_if (pt_cmpR op_notIn_seq (pv 0) (pe_glob (v := .ref aC) (by rfl) mC rfl) (by rfl))
        (pss_one (L2N.ps_raise rfl (L2N.takes_of rfl rfl rfl rfl) (pmk_bare PySem.F.excBase_Exception U.xF U.gF U.kF (raises_own U.bF U.tF) (by rfl)))) pss_nil)
      (pss_one (ps_ret (pe_callS FO hr (by rfl) mO kO bO (fun σ => L2N.passAt (L2N.takes_of rfl rfl rfl rfl) σ) (pa_cons (pv 1) (pa_cons (pe_tup (pa_cons pe_str pa_nil)) pa_nil))))), ?_⟩
    obtain ⟨n, a, ss, rfl, hS, hp, kF, kS⟩ := h
    unfold putOps at kF kS
    refine ⟨_, rfl, aC, _, rfl, .inr (.inr qC), rfl, flat_strs _, _, rfl, ?_⟩
    show (if (!inV (V.str (S n)) (putOff.map fun b => V.str (S b))) = true then _ else _)
    rw [in_strs]
    by_cases c : putOff.contains n = true
    · rw [if_pos c] at kF kS
      rw [c]
      refine iteF ⟨_, rfl, by show 1 ≤ sizeLine; decide, fun p np => ?_⟩
      have sm := same_upd (o := .tup [V.str (Str.ofString "any")]) (Same.refl H) np
      refine ⟨a, p, ss, [Sf47.txt "any"], rfl, sm.seq hS, .inl (.inl ?_), hp, fun f hf => ?_, by decide, fun z H' s' => kF z H' (sm.trans s'), fun os ho H' q s' nq oq => kS os ho H' q (sm.trans s') (sm.free nq) oq⟩
      · rw [upd_same, S_txt "any"]
        rfl
      · rw [List.mem_singleton.mp hf]
        decide +kernel
    · rw [if_neg c] at kF
      rw [Bool.eq_false_iff.mpr c]
      exact iteT (kF rfl H (Same.refl H))
end
end Sl
set_option Elab.async false
set_option linter.all false
set_option maxRecDepth 100000
set_option maxHeartbeats 4000000
namespace Sl
open PySem PySem.Spec PyProof.Rows L2 SlM
/-! ### a Line in the heap -/
def lnF (l n o q : V) : List (Str × V) := [("label", l), ("name", n), ("opens", o), ("operands", q)]
def labV : Option Bytes → V
  | none => .non
  | some w => .str (S w)
def nameV : Option Sf47.Insn → V
  | none => .non
  | some i => .str (S (insKV i).1)
def opensV : Option Sf47.Insn → Bool
  | none => false
  | some i => (insKV i).2.1
def opsV : Option Sf47.Insn → List Opd
  | none => []
  | some i => (insKV i).2.2
def LineAt (CL : Addr) (H : Hp) (r : Addr) (pl : PLine) : Prop := ∃ dx p, H r = some (.ins CL dx (lnF (labV pl.1) (nameV pl.2) (.bl (opensV pl.2)) (.ref p))) ∧ OpsAt H p (opsV pl.2)
/-- a Line whose list of operands was not there before -/
def LineNew (CL : Addr) (H0 H : Hp) (r : Addr) (pl : PLine) : Prop := ∃ dx p, H r = some (.ins CL dx (lnF (labV pl.1) (nameV pl.2) (.bl (opensV pl.2)) (.ref p))) ∧ OpsAt H p (opsV pl.2) ∧ H0 p = none
theorem LineNew.here {CL : Addr} {H0 H : Hp} {r : Addr} {pl : PLine} (h : LineNew CL H0 H r pl) : LineAt CL H r pl := by
  obtain ⟨dx, p, h1, h2, _⟩ := h
  exact ⟨dx, p, h1, h2⟩
theorem LineNew.back {CL : Addr} {H H0 H1 : Hp} {r : Addr} {pl : PLine} (s : Same H H0) (h : LineNew CL H0 H1 r pl) : LineNew CL H H1 r pl := by
  obtain ⟨dx, p, h1, h2, h3⟩ := h
  exact ⟨dx, p, h1, h2, s.free h3⟩
/-- what the text says of Line -/
structure LnTxt (K : PySem.W.Frag) (mg : Str → Option Value) (CL fI : Addr) (fdI : FuncData) : Prop where
  gC : mg "Line" = some (.ref CL)
  cl : Cls K CL
  nL : NoAttr K CL "label"
  nN : NoAttr K CL "name"
  nO : NoAttr K CL "opens"
  nP : NoAttr K CL "operands"
  mkC : Mk K CL fI
  fi : Fun K "__init__" "Line.__init__" s_line_init fI fdI
theorem putF_here {f : Str} {v x : V} {r : List (Str × V)} : putF f v ((f, x) :: r) = (f, v) :: r := if_pos rfl
theorem putF_past {f g : Str} {v x : V} {r : List (Str × V)} (h : ¬ g = f) : putF f v ((g, x) :: r) = (g, x) :: putF f v r := if_neg h
theorem lnF_new (l n o q : V) : putF "operands" q (putF "opens" o (putF "name" n (putF "label" l []))) = lnF l n o q := by
  show putF "operands" q (putF "opens" o (putF "name" n [("label", l)])) = _
  rw [putF_past (by decide +kernel)]
  show putF "operands" q (putF "opens" o [("label", l), ("name", n)]) = _
  rw [putF_past (by decide +kernel), putF_past (by decide +kernel)]
  show putF "operands" q [("label", l), ("name", n), ("opens", o)] = _
  rw [putF_past (by decide +kernel), putF_past (by decide +kernel), putF_past (by decide +kernel)]
  rfl
theorem look_here {k : Str} {v : V} {r : List (Str × V)} : List.lookup k ((k, v) :: r) = some v := by
  have e : (k == k) = true := beq_self_eq_true k
  simp only [List.lookup, e]
theorem look_past {k g : Str} {v : V} {r : List (Str × V)} (h : (k == g) = false) : List.lookup k ((g, v) :: r) = List.lookup k r := by
  simp only [List.lookup, h]
theorem lnF_label (l n o q : V) : (lnF l n o q).lookup ("label" : Str) = some l := look_here
theorem lnF_name (l n o q : V) : (lnF l n o q).lookup ("name" : Str) = some n := (look_past (by decide +kernel)).trans look_here
theorem lnF_opens (l n o q : V) : (lnF l n o q).lookup ("opens" : Str) = some o := (look_past (by decide +kernel)).trans ((look_past (by decide +kernel)).trans look_here)
theorem lnF_operands (l n o q : V) : (lnF l n o q).lookup ("operands" : Str) = some q := (look_past (by decide +kernel)).trans ((look_past (by decide +kernel)).trans ((look_past (by decide +kernel)).trans look_here))
theorem ops_same {H H' : Hp} {p : Addr} {os : List Opd} (s : Same H H') (h : OpsAt H p os) : OpsAt H' p os := by
  obtain ⟨rs, h1, h2⟩ := h
  exact ⟨rs, s _ _ h1, Paired.mapP h2 fun r o e => s _ _ e⟩
theorem line_same {CL : Addr} {H H' : Hp} {r : Addr} {pl : PLine} (s : Same H H') (h : LineAt CL H r pl) : LineAt CL H' r pl := by
  obtain ⟨dx, p, h1, h2⟩ := h
  exact ⟨dx, p, s _ _ h1, ops_same s h2⟩
theorem cut_drop (xs : List V) (k : Nat) : cutV xs (some (k : Int)) none = xs.drop k := by
  unfold cutV
  rw [HT.sIx_none, HT.sIx_nat]
  rcases Nat.le_total k xs.length with h | h
  · rw [Nat.min_eq_left h, List.take_of_length_le (by rw [List.length_drop]; exact Nat.le_refl _)]
  · rw [Nat.min_eq_right h, List.drop_length, List.drop_of_length_le h]
    simp
theorem sv_mark {s : Sf47.Sign} (hp : Proper s) {c : UInt8} (hc : Sf47.begins c = false) {m : Sf47.Sign} (hm : sv m = .str (S [c])) (hu : ∀ z, m ≠ .num z) (hi : ∀ s', sv s' = .str (S [c]) → (∀ w, s' ≠ .word w) → s' = m) : decide (sv s = .str (S [c])) = decide (s = m) := by
  by_cases e : s = m
  · rw [e, hm, decide_eq_true rfl, decide_eq_true rfl]
  · rw [decide_eq_false e]
    refine decide_eq_false fun z => e (hi s z fun w hw => ?_)
    subst hw
    obtain ⟨x, r, rfl, hb, _⟩ := hp
    have := (List.cons.inj (S_inj (V.str.inj z))).1
    rw [this, hc] at hb
    cases hb
theorem sv_open {s : Sf47.Sign} (hp : Proper s) : decide (sv s = .str (S [40])) = decide (s = .open_) := by
  refine sv_mark hp (by decide) rfl (fun z h => by cases h) fun s' h hw => ?_
  cases s' with
  | word w => exact absurd rfl (hw w)
  | num z => cases h
  | colon => exact absurd (S_inj (V.str.inj h)) (by decide)
  | open_ => rfl
  | close => exact absurd (S_inj (V.str.inj h)) (by decide)
theorem sv_colon {s : Sf47.Sign} (hp : Proper s) : decide (sv s = .str (S [58])) = decide (s = .colon) := by
  refine sv_mark hp (by decide) rfl (fun z h => by cases h) fun s' h hw => ?_
  cases s' with
  | word w => exact absurd rfl (hw w)
  | num z => cases h
  | colon => rfl
  | open_ => exact absurd (S_inj (V.str.inj h)) (by decide)
  | close => exact absurd (S_inj (V.str.inj h)) (by decide)
theorem sv_text {s : Sf47.Sign} {n : Bytes} (h : textOf s = some n) : sv s = .str (S n) := by
  cases s <;> first | (cases h; done) | (cases h; rfl)
theorem sv_scal (s : Sf47.Sign) (n : Str) : scal (sv s) (.str n) = true := by cases s <;> rfl
theorem form_all {n : Bytes} {fs : List Bytes} (h : forms.lookup n = some fs) : (fs.all (fun f => (kinds.lookup f).isSome) && decide (fs.length ≤ 1000)) = true := by
  have key : ∀ l : List (Bytes × List Bytes), (l.all fun p => p.2.all (fun f => (kinds.lookup f).isSome) && decide (p.2.length ≤ 1000)) = true → l.lookup n = some fs → (fs.all (fun f => (kinds.lookup f).isSome) && decide (fs.length ≤ 1000)) = true := by
    intro l
    induction l with
    | nil => intro _ h; cases h
    | cons p r ih =>
      intro ha h
      rw [List.all_cons, Bool.and_eq_true] at ha
      rw [List.lookup_cons] at h
      cases c : (n == p.1) with
      | true =>
        rw [c] at h
        cases h
        exact ha.1
      | false =>
        rw [c] at h
        exact ih ha.2 h
  exact key forms (by decide +kernel) h
theorem form_kinds {n : Bytes} {fs : List Bytes} (h : forms.lookup n = some fs) : ∀ f ∈ fs, (kinds.lookup f).isSome = true := fun f hf => List.all_eq_true.mp (Bool.and_eq_true_iff.mp (form_all h)).1 f hf
theorem form_len {n : Bytes} {fs : List Bytes} (h : forms.lookup n = some fs) : fs.length ≤ 1000 := of_decide_eq_true (Bool.and_eq_true_iff.mp (form_all h)).2
theorem ins_plainG {s : Sf47.Sign} {n : Bytes} {fs : List Bytes} {t : List Sf47.Sign} (ht : textOf s = some n) (h : forms.lookup n = some fs) (hno : ∀ t', t ≠ .open_ :: t') : readIns (s :: t) = (readOps t fs).map fun l => (n, false, l) := by
  simp only [readIns, ht, h, Option.bind_some]
theorem ins_openG {s : Sf47.Sign} {n : Bytes} {fs : List Bytes} {t : List Sf47.Sign} (ht : textOf s = some n) (h : forms.lookup n = some fs) : readIns (s :: .open_ :: t) = (putOps n t).map fun l => (n, true, l) := by
  simp only [readIns, ht, h, Option.bind_some]
  unfold putOps
  split <;> rfl
section
variable {P : Program} {w : World} {K : PySem.W.Frag} {mg : Str → Option Value} {base : Heap} {CU CL fI : Addr} {fdI : FuncData}
def spInit (CL : Addr) : Sp := fun vs H Q _ => ∃ (p dx : Addr) (l n o q : V), vs = [.ref p, l, n, o, q] ∧ H p = some (.ins CL dx []) ∧ ∀ H' : Hp, H' p = some (.ins CL dx (lnF l n o q)) → (∀ b ob, H b = some ob → b ≠ p → H' b = some ob) → Q .non H'
theorem sc_ini : FnScope ["self", "label", "name", "opens", "operands"] ["self", "label", "name", "opens", "operands"] (defScope s_line_init) := ⟨rfl, rfl, rfl, by decide +kernel, rfl, by decide +kernel, by decide +kernel⟩
theorem ok_init (T : LnTxt K mg CL fI fdI) : FnOk P w K mg base CX0 1 fI fdI ["self", "label", "name", "opens", "operands"] (spInit CL) := by
  refine T.fi.ok sc_ini (fun vs H Q E h => ?_) (fun cdv A outer s H vs Q E hr h => ?_)
  · obtain ⟨p, dx, l, n, o, q, rfl, _⟩ := h
    rfl
  · refine ⟨_, pss_cons (ps_fld (pv 0) (pv 1) rfl) (pss_cons (ps_fld (pv 0) (pv 2) rfl) (pss_cons (ps_fld (pv 0) (pv 3) rfl) (pss_one (ps_fld (pv 0) (pv 4) rfl)))), ?_⟩
    obtain ⟨p, dx, l, n, o, q, rfl, hp, k⟩ := h
    refine ⟨_, rfl, _, rfl, p, CL, dx, [], rfl, hp, T.cl, T.nL, (by show 0 < 1000; decide), ?_⟩
    refine ⟨_, rfl, _, rfl, p, CL, dx, _, rfl, upd_same, T.cl, T.nN, (by show 1 < 1000; decide), ?_⟩
    refine ⟨_, rfl, _, rfl, p, CL, dx, _, rfl, upd_same, T.cl, T.nO, (by show 2 < 1000; decide), ?_⟩
    refine ⟨_, rfl, _, rfl, p, CL, dx, _, rfl, upd_same, T.cl, T.nP, (by show 3 < 1000; decide), ?_⟩
    refine k _ (Eq.trans upd_same (congrArg (fun z => some (HO.ins CL dx z)) (lnF_new l n o q))) fun b ob e hb => ?_
    rw [upd_ne hb, upd_ne hb, upd_ne hb, upd_ne hb]
    exact e
theorem bind_init (T : LnTxt K mg CL fI fdI) : Binds K fdI ["self", "label", "name", "opens", "operands"] [] := T.fi.binds fun _ _ _ _ _ _ us hl => match us, hl with | [_, _, _, _, _], _ => rfl
/-! ### read_instruction -/
def spIns (K : PySem.W.Frag) (CU CL : Addr) : Sp := fun vs H Q E => ∃ (lab : Option Bytes) (a : Addr) (ss : List Sf47.Sign), vs = [labV lab, .ref a] ∧ SqL K H a (ss.map sv) ∧ (∀ s ∈ ss, Proper s) ∧
  (insOf ss = none → ∀ H', Same H H' → E (.ref CU) none H') ∧ (∀ i, insOf ss = some i → ∀ H' r, Same H H' → H r = none → LineNew CL H H' r (lab, i) → Q (.ref r) H')
theorem sc_ins : FnScope ["label", "signs", "name"] ["label", "signs"] (defScope s_read_instruction) := ⟨rfl, rfl, rfl, by decide +kernel, rfl, by decide +kernel, by decide +kernel⟩
theorem ok_ins {f : Addr} {fd : FuncData} (F : Fun K "read_instruction" "read_instruction" s_read_instruction f fd) (U : UnTxt K mg CU) (T : LnTxt K mg CL fI fdI) (hl : mg "len" = none) (C : TupTab K w mg "FORMS" forms)
    (O : Df P w K mg base (L2N.CX P w) 5 "read_operands" ["signs", "forms"] (spOps K CU)) (R : Df P w K mg base (L2N.CX P w) 6 "read_put_off" ["name", "signs"] (spPut K CU)) : FnOk P w K mg base (L2N.CX P w) 7 f fd ["label", "signs"] (spIns K CU CL) := by
  obtain ⟨fO, fdO, mO, kO, bO, FO⟩ := O
  obtain ⟨fR, fdR, mR, kR, bR, FR⟩ := R
  obtain ⟨dC, mC, TC⟩ := C
  have hR : ∀ (b : List Bytes) (u : Value), KTup K (b.map fun b => V.str (S b)) u → ∃ v, L2.RelV v u := fun b u r => by
    obtain ⟨a, e, _⟩ := r
    exact ⟨.ref a, e⟩
  have GI : FnOk P w K mg base CX0 1 fI fdI ["self", "label", "name", "opens", "operands"] (spInit CL) := ok_init T
  have bI := bind_init T
  refine okN F sc_ins (fun vs H Q E h => ?_) (fun cdv A outer s H vs Q E hr h => ?_)
  · obtain ⟨lab, a, ss, rfl, _⟩ := h
    rfl
  · have hr5 : Room 5 _ := hr.mono (by decide)
    have hr2 : Room 2 _ := hr.mono (by decide)
    refine ⟨_, pss_cons (ps_if (pt_cmpR op_eq (pe_callB call_len_seq (by rfl) hl PySem.boot_len (pa_cons (pv 1) pa_nil)) pe_int (nomark _))
        (pss_one (ps_ret (pe_make T.mkC GI hr2 rfl T.gC bI .nil pass0 (pa_cons (pv 0) (pa_cons pe_non (pa_cons pe_bl (pa_cons (pe_lst pa_nil) pa_nil))))))) pss_nil)
      (pss_cons (ps_set (i := 2) sc_ins.nd rfl (Or.inl rfl) (pe_ix ix_list (pv 1) pe_int (fun _ _ => rfl)))
      (pss_cons (ps_if (pt_cmpR (op_notIn_tab TC) (pv 2) (pe_glob (v := .ref dC) (by rfl) mC rfl) (by rfl))
        (pss_one (L2N.ps_raise rfl (L2N.takes_of rfl rfl rfl rfl) (pmk_bare PySem.F.excBase_Exception U.xF U.gF U.kF (raises_own U.bF U.tF) (by rfl)))) pss_nil)
      (pss_cons (ps_if (PW.pt (pw_and (pt_cmpR op_gt (pe_callB call_len_seq (by rfl) hl PySem.boot_len (pa_cons (pv 1) pa_nil)) pe_int (nomark _)) (pw_and1 (pt_cmpR op_eq (pe_ix ix_list (pv 1) pe_int (fun _ _ => rfl)) pe_str (nomark _)))))
        (pss_one (ps_ret (pe_make T.mkC GI hr2 rfl T.gC bI .nil pass0 (pa_cons (pv 0) (pa_cons (pv 2) (pa_cons pe_bl (pa_cons
          (pe_callS FR hr (by rfl) mR kR bR (fun σ => L2N.passAt (L2N.takes_of rfl rfl rfl rfl) σ) (pa_cons (pv 2) (pa_cons (pe_slice sl_list (pv 1) (po_some pe_int) po_none) pa_nil))) pa_nil))))))) pss_nil)
      (pss_one (ps_ret (pe_make T.mkC GI hr2 rfl T.gC bI .nil pass0 (pa_cons (pv 0) (pa_cons (pv 2) (pa_cons pe_bl (pa_cons
          (pe_callS FO hr5 (by rfl) mO kO bO (fun σ => L2N.passAt (L2N.takes_of rfl rfl rfl rfl) σ) (pa_cons (pe_slice sl_list (pv 1) (po_some pe_int) po_none) (pa_cons (pe_ix (ix_tab TC hR) (pe_glob (v := .ref dC) (by rfl) mC rfl) (pv 2) (fun _ _ => rfl)) pa_nil))) pa_nil)))))))))), ?_⟩
    obtain ⟨lab, a, ss, rfl, hS, hp, kF, kS⟩ := h
    -- a new Line
    have make : ∀ (H1 : Hp) (q : Addr) (i : Option Sf47.Insn), insOf ss = some i → Same H H1 → OpsAt H1 q (opsV i) → H q = none → ∀ x dx, H1 x = none → H1 dx = none → dx ≠ x →
        spInit CL [.ref x, labV lab, nameV i, .bl (opensV i), .ref q] (upd (upd H1 dx (.own x)) x (.ins CL dx [])) (fun v H2 => v = .non ∧ Q (.ref x) H2) E0 := by
      intro H1 q i hi s1 oq nq x dx nx ndx ne
      refine ⟨x, dx, _, _, _, _, rfl, upd_same, fun H2 e2 kp => ⟨rfl, ?_⟩⟩
      have sm : Same H1 H2 := Same.made nx ndx kp
      exact kS i hi H2 x (s1.trans sm) (s1.free nx) ⟨dx, q, e2, ops_same sm oq, nq⟩
    refine ⟨_, rfl, a, _, rfl, .inl hS, rfl, _, rfl, ?_⟩
    rw [int_eq, List.length_map]
    cases ss with
    | nil =>
      refine if_t (decide_eq_true rfl) ?_
      refine ⟨_, rfl, by show 0 ≤ sizeLine; decide, fun p np => ?_⟩
      exact make (upd H p (.lst [])) p none rfl (same_upd (Same.refl H) np) ⟨[], upd_same, .nil⟩ np
    | cons sn t =>
      refine if_f (decide_eq_false (by rw [List.length_cons]; omega)) ?_
      have hpw : ∀ w r, sn :: t = .word w :: r → w ≠ Sf47.txt ")" := fun w r e hw => by
        obtain ⟨rfl, rfl⟩ := List.cons.inj e
        obtain ⟨x, r', e1, hb, _⟩ := hp (.word w) List.mem_cons_self
        rw [hw] at e1
        have := (List.cons.inj e1).1
        rw [← this] at hb
        exact absurd hb (by decide)
      have hins := ins_is (sn :: t) hpw (by simp)
      have io : insOf (sn :: t) = (Sf47.insn (sn :: t)).map some := if_neg (by simp)
      have bad : readIns (sn :: t) = none → ∀ H', Same H H' → E (.ref CU) none H' := fun z => kF (by
        rw [z] at hins
        rw [io]
        cases q : Sf47.insn (sn :: t) with
        | none => rfl
        | some i => rw [q] at hins; cases hins)
      have good : ∀ n o os, readIns (sn :: t) = some (n, o, os) → ∃ i, insOf (sn :: t) = some (some i) ∧ nameV (some i) = .str (S n) ∧ opensV (some i) = o ∧ opsV (some i) = os := fun n o os z => by
        rw [z] at hins
        cases q : Sf47.insn (sn :: t) with
        | none => rw [q] at hins; cases hins
        | some i =>
          rw [q] at hins
          have e := Option.some.inj hins
          refine ⟨i, by rw [io, q]; rfl, ?_, ?_, ?_⟩
          · show V.str (S (insKV i).1) = _
            rw [← e]
          · show (insKV i).2.1 = _
            rw [← e]
          · show (insKV i).2.2 = _
            rw [← e]
      refine ⟨_, rfl, a, _, _, sv sn, rfl, rfl, hS, atI_nat (j := 0) rfl, ?_⟩
      cases ht : textOf sn with
      | none =>
        cases sn with
        | num z => exact ⟨_, rfl, rfl, .inr ⟨z, rfl, _, rfl, iteT (bad rfl H (Same.refl H))⟩⟩
        | _ => cases ht
      | some n =>
        have es := sv_text ht
        rw [es]
        refine ⟨_, rfl, rfl, .inl ⟨_, rfl, _, rfl, ?_⟩⟩
        have hlk := lookup_S (fun ks : List Bytes => ks) n forms
        rw [hlk, Bool.bne_true]
        cases hf : forms.lookup n with
        | none => exact iteT (bad (ins_no ht hf) H (Same.refl H))
        | some fs =>
          rw [hf] at hlk
          have hlk : (forms.map fun p => (S p.1, p.2)).lookup (S n) = some fs := hlk
          refine iteF ?_
          have hkf : ∀ f ∈ fs, (kinds.lookup f).isSome = true := form_kinds hf
          have hfl : fs.length ≤ 1000 := form_len hf
          -- without a parenthesis
          have plainIns : (∀ t', t ≠ .open_ :: t') → ∃ v, [some (labV lab), some (V.ref a), some (V.str (S n))][0]? = some (some v) ∧ ∃ v1, [some (labV lab), some (V.ref a), some (V.str (S n))][2]? = some (some v1) ∧
              ∃ v2, [some (labV lab), some (V.ref a), some (V.str (S n))][1]? = some (some v2) ∧ ∃ i, V.int 1 = .int i ∧ rSlL K v2 (some i) none H fun x H3 => ∃ v3, [some (labV lab), some (V.ref a), some (V.str (S n))][2]? = some (some v3) ∧
                rIxT dC (fun ks u => KTup K (ks.map fun b => V.str (S b)) u) (forms.map fun p => (S p.1, p.2)) (.ref dC) v3 H3 fun y H4 => spOps K CU [x, y] H4 (fun z H5 => ∀ x dx, H5 x = none → H5 dx = none → dx ≠ x →
                  spInit CL (.ref x :: ([v, v1, .bl false, z] ++ [])) (upd (upd H5 dx (.own x)) x (.ins CL dx [])) (fun v H2 => v = .non ∧ Q (.ref x) H2) E0) E := by
            intro hno
            refine ⟨_, rfl, _, rfl, _, rfl, _, rfl, a, _, rfl, hS, fun p np => ?_⟩
            have sm := same_upd (o := .lst (cutV ((sn :: t).map sv) (some 1) none)) (Same.refl H) np
            refine ⟨_, rfl, _, fs, rfl, rfl, hlk, fun v u r1 r2 => ?_⟩
            obtain ⟨b, rfl, rb⟩ := r1.sq (upd H p (.lst (cutV ((sn :: t).map sv) (some 1) none)))
            cases (relV_inj (a := .ref b) rfl r2)
            have er : readIns (sn :: t) = (readOps t fs).map fun l => (n, false, l) := ins_plainG ht hf hno
            refine ⟨p, b, t, fs, rfl, ?_, rb, fun s hs => hp s (List.mem_cons_of_mem _ hs), hkf, hfl, fun z H' s' => ?_, fun os ho H' q s' nq oq => ?_⟩
            · refine SqL.of ?_
              rw [upd_same, show (some (1 : Int)) = some ((1 : Nat) : Int) from rfl, cut_drop]
              rfl
            · rw [z] at er
              exact bad er H' (sm.trans s')
            · rw [ho] at er
              obtain ⟨i, hi, e1, e2, e3⟩ := good n false os er
              have mk := make H' q i hi (sm.trans s')
              rw [e1, e2, e3] at mk
              exact mk oq (sm.free nq)
          refine ⟨_, rfl, a, _, rfl, .inl hS, _, _, rfl, rfl, _, rfl, ?_⟩
          rw [List.length_map]
          cases t with
          | nil => exact if_f (decide_eq_false (by simp)) (iteF (plainIns fun t' h => by cases h))
          | cons s1 t' =>
            refine if_t (decide_eq_true (by simp; omega)) ?_
            refine ⟨_, rfl, a, _, _, sv s1, rfl, rfl, hS, atI_nat (j := 1) rfl, sv_scal _ _, _, rfl, ?_⟩
            have h1 : Proper s1 := hp s1 (List.mem_cons_of_mem _ List.mem_cons_self)
            rw [show Str.ofString "(" = S [40] from by decide +kernel, sv_open h1]
            by_cases ho : s1 = .open_
            · refine if_t (decide_eq_true ho) ?_
              subst ho
              refine ⟨_, rfl, _, rfl, _, rfl, _, rfl, _, rfl, a, _, rfl, hS, fun p np => ?_⟩
              have sm := same_upd (o := .lst (cutV ((sn :: .open_ :: t').map sv) (some 2) none)) (Same.refl H) np
              have er : readIns (sn :: .open_ :: t') = (putOps n t').map fun l => (n, true, l) := ins_openG ht hf
              refine ⟨n, p, t', rfl, ?_, fun s hs => hp s (List.mem_cons_of_mem _ (List.mem_cons_of_mem _ hs)), fun z H' s' => ?_, fun os hos H' q s' nq oq => ?_⟩
              · refine SqL.of ?_
                rw [upd_same, show (some (2 : Int)) = some ((2 : Nat) : Int) from rfl, cut_drop]
                rfl
              · rw [z] at er
                exact bad er H' (sm.trans s')
              · rw [hos] at er
                obtain ⟨i, hi, e1, e2, e3⟩ := good n true os er
                have mk := make H' q i hi (sm.trans s')
                rw [e1, e2, e3] at mk
                exact mk oq (sm.free nq)
            · exact if_f (decide_eq_false ho) (plainIns fun t2 h => ho (List.cons.inj h).1)
end
end Sl
set_option Elab.async false
set_option linter.all false
set_option maxRecDepth 100000
set_option maxHeartbeats 4000000
namespace Sl
open PySem PySem.Spec PyProof.Rows L2 SlM
theorem line_none {b : Bytes} (h : signsOf b = none) : readLine b = none := by
  unfold signsOf at h
  unfold readLine
  by_cases c : 255 < b.length
  · rw [if_pos c]
  · rw [if_neg c] at h ⊢
    rw [h]
    rfl
theorem line_plain {b : Bytes} {ss : List Sf47.Sign} (h : signsOf b = some ss) (hn : ∀ s r, ss ≠ s :: .colon :: r) : readLine b = (insOf ss).map fun i => (none, i) := by
  unfold signsOf at h
  unfold readLine
  by_cases c : 255 < b.length
  · rw [if_pos c] at h
    cases h
  · rw [if_neg c] at h ⊢
    rw [h, Option.bind_some]
    split
    · exact absurd rfl (hn _ _)
    · rfl
theorem line_lab {b : Bytes} {w : Bytes} {r : List Sf47.Sign} (h : signsOf b = some (.word w :: .colon :: r)) : readLine b = if Sf47.taken w = true then none else (insOf r).map fun i => (some w, i) := by
  unfold signsOf at h
  unfold readLine
  by_cases c : 255 < b.length
  · rw [if_pos c] at h
    cases h
  · rw [if_neg c] at h ⊢
    rw [h]
    rfl
theorem line_odd {b : Bytes} {s : Sf47.Sign} {r : List Sf47.Sign} (h : signsOf b = some (s :: .colon :: r)) (hw : ∀ w, s ≠ .word w) : readLine b = none := by
  unfold signsOf at h
  unfold readLine
  by_cases c : 255 < b.length
  · rw [if_pos c] at h
    cases h
  · rw [if_neg c] at h ⊢
    rw [h, Option.bind_some]
    have e : insOf (s :: .colon :: r) = none := by
      unfold insOf
      rw [if_neg (by simp), insn_nonword hw]
      rfl
    split
    · rename_i w' r' q
      exact absurd (List.cons.inj q).1 (hw _)
    · rw [e]
      rfl
theorem signs_proper {b : Bytes} {ss : List Sf47.Sign} (h : signsOf b = some ss) : ∀ s ∈ ss, Proper s := by
  unfold signsOf at h
  by_cases c : 255 < b.length
  · rw [if_pos c] at h
    cases h
  · rw [if_neg c] at h
    exact sg_proper b.length b ss (Nat.le_refl _) h
section
variable {P : Program} {w : World} {K : PySem.W.Frag} {mg : Str → Option Value} {base : Heap} {CU CL fI : Addr} {fdI : FuncData}
def spLine (CU CL : Addr) : Sp := fun vs H Q E => ∃ b : Bytes, vs = [.str (S b)] ∧ b.length ≤ 70000 ∧ (readLine b = none → ∀ H', Same H H' → E (.ref CU) none H') ∧ (∀ pl, readLine b = some pl → ∀ H' r, Same H H' → H r = none → LineNew CL H H' r pl → Q (.ref r) H')
theorem sc_rln : FnScope ["row", "signs"] ["row"] (defScope s_read_line) := ⟨rfl, rfl, rfl, by decide +kernel, rfl, by decide +kernel, by decide +kernel⟩
theorem ok_line {f : Addr} {fd : FuncData} (F : Fun K "read_line" "read_line" s_read_line f fd) (hl : mg "len" = none) (G : Df P w K mg base (L2N.CX P w) 4 "signs_of" ["row"] (spSigns CU))
    (L : Df P w K mg base (L2N.CX P w) 3 "read_label" ["sign"] (spLabel CU)) (I : Df P w K mg base (L2N.CX P w) 7 "read_instruction" ["label", "signs"] (spIns K CU CL)) : FnOk P w K mg base (L2N.CX P w) 8 f fd ["row"] (spLine CU CL) := by
  obtain ⟨fG, fdG, mG, kG, bG, FG⟩ := G
  obtain ⟨fL, fdL, mL, kL, bL, FL⟩ := L
  obtain ⟨fN, fdN, mN, kN, bN, FN⟩ := I
  refine okN F sc_rln (fun vs H Q E h => ?_) (fun cdv A outer s H vs Q E hr h => ?_)
  · obtain ⟨b, rfl, _⟩ := h
    rfl
  · have hr4 : Room 4 _ := hr.mono (by decide)
    have hr3 : Room 3 _ := hr.mono (by decide)
    refine ⟨_, pss_cons (ps_set (i := 1) sc_rln.nd rfl (Or.inl rfl) (pe_callS FG hr4 (by rfl) mG kG bG (fun σ => L2N.passAt (L2N.takes_of rfl rfl rfl rfl) σ) (pa_cons (pv 0) pa_nil)))
      (pss_cons (ps_if (PW.pt (pw_or (pt_cmpR op_lt (pe_callB call_len_seq (by rfl) hl PySem.boot_len (pa_cons (pv 1) pa_nil)) pe_int (nomark _)) (pw_or1 (pt_cmpR op_ne (pe_ix ix_list (pv 1) pe_int (fun _ _ => rfl)) pe_str (nomark _)))))
        (pss_one (ps_ret (pe_callS FN hr (by rfl) mN kN bN (fun σ => L2N.passAt (L2N.takes_of rfl rfl rfl rfl) σ) (pa_cons pe_non (pa_cons (pv 1) pa_nil))))) pss_nil)
      (pss_one (ps_ret (pe_callS FN hr (by rfl) mN kN bN (fun σ => L2N.passAt (L2N.takes_of rfl rfl rfl rfl) σ)
        (pa_cons (pe_callS FL hr3 (by rfl) mL kL bL (fun σ => L2N.passAt (L2N.takes_of rfl rfl rfl rfl) σ) (pa_cons (pe_ix ix_list (pv 1) pe_int (fun _ _ => rfl)) pa_nil))
          (pa_cons (pe_slice sl_list (pv 1) (po_some pe_int) po_none) pa_nil)))))), ?_⟩
    obtain ⟨b, rfl, hb, kF, kS⟩ := h
    refine ⟨_, rfl, b, rfl, hb, fun z H' s' => kF (line_none z) H' s', fun ss hs H1 p s1 np hp1 => ?_⟩
    have hpr := signs_proper hs
    have hS : SqL K H1 p (ss.map sv) := SqL.of hp1
    -- an instruction without a label
    have plain : (∀ s r, ss ≠ s :: .colon :: r) → ∃ v, [some (V.str (S b)), some (V.ref p)][1]? = some (some v) ∧ spIns K CU CL [.non, v] H1 Q E := fun hn => by
      have e := line_plain hs hn
      refine ⟨_, rfl, none, p, ss, rfl, hS, hpr, fun z H' s' => ?_, fun i hi H' r s' nr hr' => ?_⟩
      · exact kF (by rw [e, z]; rfl) H' (s1.trans s')
      · exact kS (none, i) (by rw [e, hi]; rfl) H' r (s1.trans s') (s1.free nr) (hr'.back s1)
    refine ⟨_, rfl, p, _, rfl, .inl hS, _, _, rfl, rfl, _, rfl, ?_⟩
    rw [List.length_map]
    rcases ss with _ | ⟨s0, _ | ⟨sc, r⟩⟩
    · exact if_t (decide_eq_true (by simp)) (iteT (plain fun s r h => by cases h))
    · exact if_t (decide_eq_true (by simp)) (iteT (plain fun s r h => by cases h))
    · refine if_f (decide_eq_false (by simp; omega)) ?_
      refine ⟨_, rfl, p, _, _, sv sc, rfl, rfl, hS, atI_nat (j := 1) rfl, sv_scal _ _, _, rfl, ?_⟩
      have h1 : Proper sc := hpr sc (List.mem_cons_of_mem _ List.mem_cons_self)
      rw [show Str.ofString ":" = S [58] from by decide +kernel, sv_colon h1]
      by_cases ho : sc = .colon
      · refine if_f (by rw [decide_eq_true ho]; rfl) ?_
        subst ho
        have h0 : Proper s0 := hpr s0 List.mem_cons_self
        refine ⟨_, rfl, p, _, _, sv s0, rfl, rfl, hS, atI_nat (j := 0) rfl, s0, rfl, h0, fun z H' s' => ?_, fun wd ew ht H2 s2 => ?_⟩
        · refine kF ?_ H' (s1.trans s')
          by_cases hw : ∃ wd, s0 = .word wd
          · obtain ⟨wd, rfl⟩ := hw
            rw [line_lab hs, if_pos (z wd rfl)]
          · exact line_odd hs fun wd e => hw ⟨wd, e⟩
        · subst ew
          have e := line_lab hs
          rw [ht, if_neg (by simp)] at e
          have hS2 : SqL K H2 p ((Sf47.Sign.word wd :: .colon :: r).map sv) := s2.seq hS
          refine ⟨_, rfl, _, rfl, p, _, rfl, hS2, fun q nq => ?_⟩
          have sm := same_upd (o := .lst (cutV ((Sf47.Sign.word wd :: .colon :: r).map sv) (some 2) none)) (Same.refl H2) nq
          refine ⟨some wd, q, r, rfl, ?_, fun s hs' => hpr s (List.mem_cons_of_mem _ (List.mem_cons_of_mem _ hs')), fun z H' s' => ?_, fun i hi H' r' s' nr hr' => ?_⟩
          · refine SqL.of ?_
            rw [upd_same, show (some (2 : Int)) = some ((2 : Nat) : Int) from rfl, cut_drop]
            rfl
          · exact kF (by rw [e, z]; rfl) H' (s1.trans (s2.trans (sm.trans s')))
          · exact kS (some wd, i) (by rw [e, hi]; rfl) H' r' (s1.trans (s2.trans (sm.trans s'))) (s1.free (s2.free (sm.free nr))) (hr'.back (s1.trans (s2.trans sm)))
      · exact if_t (by rw [decide_eq_false ho]; rfl) (plain fun s r h => ho (List.cons.inj (List.cons.inj h).2).1)
end
end Sl
set_option Elab.async false
set_option linter.all false
set_option maxRecDepth 100000
set_option maxHeartbeats 4000000
namespace Sl
open PySem PySem.Spec PyProof.Rows L2 SlM
def noPar : List Bytes := [Sf47.txt "JMP", Sf47.txt "JMPC", Sf47.txt "JMPCN", Sf47.txt "RET", Sf47.txt "RETC", Sf47.txt "ST", Sf47.txt "STN", Sf47.txt "S", Sf47.txt "R"]
theorem bin_par (o : Sf47.Bin) : noPar.contains (binName o) = false ∧ decide (binName o = Sf47.txt ")") = false := by
  cases o with
  | logic o b => cases o <;> cases b <;> decide +kernel
  | arith o => cases o <;> decide +kernel
  | cmp o => cases o <;> decide +kernel
theorem in_par (i : Sf47.Insn) : noPar.contains (insKV i).1 = !Sf47.inside i := by
  cases i with
  | bin o x => exact (bin_par o).1
  | open_ o x => exact (bin_par o).1
  | ld x => exact (by decide +kernel : noPar.contains (Sf47.txt "LD") = false)
  | ldn b => exact (by decide +kernel : noPar.contains (Sf47.txt "LDN") = false)
  | st n b =>
    cases n
    · exact (by decide +kernel : noPar.contains (Sf47.txt "ST") = true)
    · exact (by decide +kernel : noPar.contains (Sf47.txt "STN") = true)
  | stw n => exact (by decide +kernel : noPar.contains (Sf47.txt "ST") = true)
  | put n b =>
    cases n
    · exact (by decide +kernel : noPar.contains (Sf47.txt "R") = true)
    · exact (by decide +kernel : noPar.contains (Sf47.txt "S") = true)
  | not => exact (by decide +kernel : noPar.contains (Sf47.txt "NOT") = false)
  | close => exact (by decide +kernel : noPar.contains (Sf47.txt ")") = false)
  | jmp k l =>
    cases k
    · exact (by decide +kernel : noPar.contains (Sf47.txt "JMP") = true)
    · exact (by decide +kernel : noPar.contains (Sf47.txt "JMPC") = true)
    · exact (by decide +kernel : noPar.contains (Sf47.txt "JMPCN") = true)
  | ret c =>
    cases c
    · exact (by decide +kernel : noPar.contains (Sf47.txt "RET") = true)
    · exact (by decide +kernel : noPar.contains (Sf47.txt "RETC") = true)
  | timer k t w =>
    cases k
    · exact (by decide +kernel : noPar.contains (Sf47.txt "TON") = false)
    · exact (by decide +kernel : noPar.contains (Sf47.txt "TOF") = false)
    · exact (by decide +kernel : noPar.contains (Sf47.txt "TP") = false)
  | ctu c w => exact (by decide +kernel : noPar.contains (Sf47.txt "CTU") = false)
  | rc c => exact (by decide +kernel : noPar.contains (Sf47.txt "RC") = false)
  | edge u m =>
    cases u
    · exact (by decide +kernel : noPar.contains (Sf47.txt "DOWN") = false)
    · exact (by decide +kernel : noPar.contains (Sf47.txt "UP") = false)
theorem is_close (i : Sf47.Insn) : decide ((insKV i).1 = Sf47.txt ")") = decide (i = .close) := by
  cases i with
  | bin o x => exact (bin_par o).2.trans (decide_eq_false (fun h => by cases h)).symm
  | open_ o x => exact (bin_par o).2.trans (decide_eq_false (fun h => by cases h)).symm
  | ld x => exact (by decide +kernel : decide (Sf47.txt "LD" = Sf47.txt ")") = false).trans (decide_eq_false (fun h => by cases h)).symm
  | ldn b => exact (by decide +kernel : decide (Sf47.txt "LDN" = Sf47.txt ")") = false).trans (decide_eq_false (fun h => by cases h)).symm
  | st n b =>
    cases n
    · exact (by decide +kernel : decide (Sf47.txt "ST" = Sf47.txt ")") = false).trans (decide_eq_false (fun h => by cases h)).symm
    · exact (by decide +kernel : decide (Sf47.txt "STN" = Sf47.txt ")") = false).trans (decide_eq_false (fun h => by cases h)).symm
  | stw n => exact (by decide +kernel : decide (Sf47.txt "ST" = Sf47.txt ")") = false).trans (decide_eq_false (fun h => by cases h)).symm
  | put n b =>
    cases n
    · exact (by decide +kernel : decide (Sf47.txt "R" = Sf47.txt ")") = false).trans (decide_eq_false (fun h => by cases h)).symm
    · exact (by decide +kernel : decide (Sf47.txt "S" = Sf47.txt ")") = false).trans (decide_eq_false (fun h => by cases h)).symm
  | not => exact (by decide +kernel : decide (Sf47.txt "NOT" = Sf47.txt ")") = false).trans (decide_eq_false (fun h => by cases h)).symm
  | close => exact (decide_eq_true rfl).trans (decide_eq_true rfl).symm
  | jmp k l =>
    cases k
    · exact (by decide +kernel : decide (Sf47.txt "JMP" = Sf47.txt ")") = false).trans (decide_eq_false (fun h => by cases h)).symm
    · exact (by decide +kernel : decide (Sf47.txt "JMPC" = Sf47.txt ")") = false).trans (decide_eq_false (fun h => by cases h)).symm
    · exact (by decide +kernel : decide (Sf47.txt "JMPCN" = Sf47.txt ")") = false).trans (decide_eq_false (fun h => by cases h)).symm
  | ret c =>
    cases c
    · exact (by decide +kernel : decide (Sf47.txt "RET" = Sf47.txt ")") = false).trans (decide_eq_false (fun h => by cases h)).symm
    · exact (by decide +kernel : decide (Sf47.txt "RETC" = Sf47.txt ")") = false).trans (decide_eq_false (fun h => by cases h)).symm
  | timer k t w =>
    cases k
    · exact (by decide +kernel : decide (Sf47.txt "TON" = Sf47.txt ")") = false).trans (decide_eq_false (fun h => by cases h)).symm
    · exact (by decide +kernel : decide (Sf47.txt "TOF" = Sf47.txt ")") = false).trans (decide_eq_false (fun h => by cases h)).symm
    · exact (by decide +kernel : decide (Sf47.txt "TP" = Sf47.txt ")") = false).trans (decide_eq_false (fun h => by cases h)).symm
  | ctu c w => exact (by decide +kernel : decide (Sf47.txt "CTU" = Sf47.txt ")") = false).trans (decide_eq_false (fun h => by cases h)).symm
  | rc c => exact (by decide +kernel : decide (Sf47.txt "RC" = Sf47.txt ")") = false).trans (decide_eq_false (fun h => by cases h)).symm
  | edge u m =>
    cases u
    · exact (by decide +kernel : decide (Sf47.txt "DOWN" = Sf47.txt ")") = false).trans (decide_eq_false (fun h => by cases h)).symm
    · exact (by decide +kernel : decide (Sf47.txt "UP" = Sf47.txt ")") = false).trans (decide_eq_false (fun h => by cases h)).symm
theorem opens_d (i : Sf47.Insn) (d : Nat) : (insKV i).2.1 = true → dOf i d = d + 1 ∧ i ≠ .close := by
  cases i with
  | open_ o x => exact fun _ => ⟨rfl, fun h => by cases h⟩
  | _ => intro h; cases h
theorem plain_d (i : Sf47.Insn) (d : Nat) : (insKV i).2.1 = false → i ≠ .close → dOf i d = d := by
  cases i with
  | open_ o x => intro h; cases h
  | close => intro _ h; exact absurd rfl h
  | _ => exact fun _ _ => rfl
theorem lab_non (lab : Option Bytes) : (!decide (labV lab = V.non)) = lab.isSome := by
  cases lab with
  | none => rfl
  | some w => rfl
theorem scal_non (n : Str) : scal .non (.str n) = true := rfl
section
variable {P : Program} {w : World} {K : PySem.W.Frag} {mg : Str → Option Value} {base : Heap} {CU CL fI : Addr} {fdI : FuncData}
/-! ### depth_behind -/
def spDepth (CU CL : Addr) : Sp := fun vs H Q E => ∃ (r : Addr) (pl : PLine) (d : Nat), vs = [.ref r, .int d] ∧ LineAt CL H r pl ∧ d ≤ 8 ∧ (depthStep pl d = none → E (.ref CU) none H) ∧ (∀ d', depthStep pl d = some d' → Q (.int (d' : Nat)) H)
theorem sc_dep : FnScope ["line", "depth"] ["line", "depth"] (defScope s_depth_behind) := ⟨rfl, rfl, rfl, by decide +kernel, rfl, by decide +kernel, by decide +kernel⟩
theorem ok_depth {f : Addr} {fd : FuncData} (F : Fun K "depth_behind" "depth_behind" s_depth_behind f fd) (U : UnTxt K mg CU) (T : LnTxt K mg CL fI fdI) (cD : TxtC mg "DEPTH_LIMIT" (.int 8)) (C : TupC K mg "NOT_IN_PARENTHESES" noPar) : FnOk P w K mg base (L2N.CX P w) 1 f fd ["line", "depth"] (spDepth CU CL) := by
  obtain ⟨uC, mC, tC⟩ := C
  obtain ⟨aC, rfl, qC⟩ := id tC
  obtain ⟨uD, mD, rD⟩ := cD
  refine okN F sc_dep (fun vs H Q E h => ?_) (fun cdv A outer s H vs Q E hr h => ?_)
  · obtain ⟨r, pl, d, rfl, _⟩ := h
    rfl
  · refine ⟨_, pss_cons (ps_if (PW.pt (pw_and (pt_cmpR op_gt (pv 1) pe_int (nomark _)) (pw_and1 (PW.pt (pw_or (pt_cmpR op_notN (pe_fld (pv 0) (by rfl)) pe_non (nomark _)) (pw_or1 (pt_cmpR op_in_seq (pe_fld (pv 0) (by rfl)) (pe_glob (v := .ref aC) (by rfl) mC rfl) (by rfl))))))))
        (pss_one (L2N.ps_raise rfl (L2N.takes_of rfl rfl rfl rfl) (pmk_bare PySem.F.excBase_Exception U.xF U.gF U.kF (raises_own U.bF U.tF) (by rfl)))) pss_nil)
      (pss_cons (ps_if (pt_val (pe_fld (pv 0) (by rfl))) (pss_one (ps_aug (i := 1) sc_dep.nd rfl (Or.inl rfl) pe_int ip_add))
        (pss_one (ps_if (pt_cmpR op_eq (pe_fld (pv 0) (by rfl)) pe_str (nomark _)) (pss_one (ps_aug (i := 1) sc_dep.nd rfl (Or.inl rfl) pe_int ip_sub)) pss_nil)))
      (pss_cons (ps_if (PW.pt (pw_or (pt_cmpR op_lt (pv 1) pe_int (nomark _)) (pw_or1 (pt_cmpR op_gt (pv 1) (pe_glob (by rfl) mD rD) (nomark _)))))
        (pss_one (L2N.ps_raise rfl (L2N.takes_of rfl rfl rfl rfl) (pmk_bare PySem.F.excBase_Exception U.xF U.gF U.kF (raises_own U.bF U.tF) (by rfl)))) pss_nil)
      (pss_one (ps_ret (pv 1))))), ?_⟩
    obtain ⟨r, pl, d, rfl, ⟨dx, q, hr1, hq⟩, hd, kF, kS⟩ := h
    obtain ⟨lab, i⟩ := pl
    -- the last test
    have tail : ∀ z : Int, ((z < 0 ∨ 8 < z) → E (.ref CU) none H) → (¬ (z < 0 ∨ 8 < z) → Q (.int z) H) →
        tSeq (tIfS (tOr (tTest (tOp (rI0 fun i j => V.bl (decide (i < j))) (tVar 1) (L2.tC (V.int 0)))) (tTest (tOp (rI0 fun i j => V.bl (decide (j < i))) (tVar 1) (L2.tC (V.int 8))))) (fun x σ H => E (Value.ref CU) none H) tNext) (tRet (tVar 1))
          { nx := fun _ H' => Q .non H', rt := Q } [some (.ref r), some (.int z)] H := by
      intro z h1 h2
      refine ⟨_, rfl, _, _, rfl, rfl, _, rfl, ?_⟩
      refine ite2 (fun c => iteT (h1 (.inl (of_decide_eq_true c)))) (fun c => ?_)
      refine ⟨_, rfl, _, _, rfl, rfl, _, rfl, ?_⟩
      refine ite2 (fun c2 => h1 (.inr (of_decide_eq_true c2))) (fun c2 => ?_)
      exact ⟨_, rfl, h2 fun q => q.elim (fun q => c (decide_eq_true q)) fun q => c2 (decide_eq_true q)⟩
    -- behind the first test
    have rest : ¬ (d ≠ 0 ∧ (lab.isSome = true ∨ hasInside i = false)) →
        tSeq (tIfS (tB (tFld K (tVar 0) "opens")) (tAug 1 (L2.tC (V.int 1)) (ipI fun i j => i + j))
            (tIfS (tTest (tOp rEq (tFld K (tVar 0) "name") (L2.tC (V.str (Str.ofString ")"))))) (tAug 1 (L2.tC (V.int 1)) (ipI fun i j => i - j)) tNext))
          (tSeq (tIfS (tOr (tTest (tOp (rI0 fun i j => V.bl (decide (i < j))) (tVar 1) (L2.tC (V.int 0)))) (tTest (tOp (rI0 fun i j => V.bl (decide (j < i))) (tVar 1) (L2.tC (V.int 8))))) (fun x σ H => E (Value.ref CU) none H) tNext) (tRet (tVar 1)))
          { nx := fun _ H' => Q .non H', rt := Q } [some (.ref r), some (.int d)] H := by
      intro hn
      cases i with
      | none =>
        have e : depthStep (lab, none) d = some d := by rw [depth_none, if_neg fun q => hn ⟨q.1, .inl q.2⟩]
        refine ⟨_, rfl, r, CL, dx, _, _, rfl, hr1, T.cl, T.nO, lnF_opens _ _ _ _, _, rfl, iteF ?_⟩
        refine ⟨_, rfl, r, CL, dx, _, _, rfl, hr1, T.cl, T.nN, lnF_name _ _ _ _, scal_non _, _, rfl, iteF ?_⟩
        exact tail d (fun q => by omega) fun _ => kS d e
      | some i =>
        have e := depth_some lab i d hd
        rw [if_neg (c := d ≠ 0 ∧ (lab.isSome = true ∨ Sf47.inside i = false)) hn] at e
        refine ⟨_, rfl, r, CL, dx, _, _, rfl, hr1, T.cl, T.nO, lnF_opens _ _ _ _, _, rfl, ?_⟩
        show if (insKV i).2.1 = true then _ else _
        cases ho : (insKV i).2.1 with
        | true =>
          obtain ⟨h1, h2⟩ := opens_d i d ho
          rw [if_neg (c := i = .close ∧ d = 0) (fun q => h2 q.1), h1] at e
          refine iteT ⟨_, rfl, _, _, rfl, rfl, ?_⟩
          refine tail ((d : Int) + 1) (fun q => kF ?_) (fun q => ?_)
          · rw [e, if_pos (by omega)]
          · have := kS (d + 1) (by rw [e, if_neg (by omega)])
            exact this
        | false =>
          refine iteF ⟨_, rfl, r, CL, dx, _, _, rfl, hr1, T.cl, T.nN, lnF_name _ _ _ _, rfl, _, rfl, ?_⟩
          show if decide (V.str (S (insKV i).1) = V.str (Str.ofString ")")) = true then _ else _
          rw [S_txt ")", str_eq, is_close]
          by_cases hc : i = .close
          · refine if_t (decide_eq_true hc) ⟨_, rfl, _, _, rfl, rfl, ?_⟩
            subst hc
            by_cases d0 : d = 0
            · refine tail ((d : Int) - 1) (fun q => kF ?_) (fun q => absurd (.inl (by omega)) q)
              rw [e, if_pos ⟨rfl, d0⟩]
            · refine tail ((d : Int) - 1) (fun q => by omega) (fun q => ?_)
              have := kS (d - 1) (by rw [e, if_neg (fun q => d0 q.2)]; show (if 8 < d - 1 then none else some (d - 1)) = _; rw [if_neg (by omega)])
              rw [show ((d : Int) - 1) = ((d - 1 : Nat) : Int) by omega]
              exact this
          · refine if_f (decide_eq_false hc) ?_
            rw [if_neg (c := i = .close ∧ d = 0) (fun q => hc q.1), plain_d i d ho hc, if_neg (by omega)] at e
            exact tail d (fun q => by omega) fun _ => kS d e
    by_cases c0 : d = 0
    · exact ⟨_, rfl, _, _, rfl, rfl, _, rfl, if_f (decide_eq_false (by omega)) (iteF (rest fun q => q.1 c0))⟩
    · refine ⟨_, rfl, _, _, rfl, rfl, _, rfl, if_t (decide_eq_true (by omega)) ?_⟩
      refine ⟨_, rfl, r, CL, dx, _, _, rfl, hr1, T.cl, T.nL, lnF_label _ _ _ _, rfl, _, rfl, ?_⟩
      rw [lab_non]
      have bad : (lab.isSome = true ∨ hasInside i = false) → depthStep (lab, i) d = none := fun q => by
        unfold depthStep
        rw [if_pos ⟨c0, q⟩]
      refine ite2 (fun c => iteT (kF (bad (.inl c)))) (fun c => ?_)
      refine ⟨_, rfl, r, CL, dx, _, _, rfl, hr1, T.cl, T.nN, lnF_name _ _ _ _, aC, _, rfl, .inr (.inr qC), ?_, flat_strs _, _, rfl, ?_⟩
      · cases i <;> rfl
      cases i with
      | none => exact iteF (rest fun q => q.2.elim c (fun z => by cases z))
      | some i =>
        show (if inV (V.str (S (insKV i).1)) (noPar.map fun b => V.str (S b)) = true then _ else _)
        rw [in_strs, in_par]
        cases hi : Sf47.inside i with
        | true => exact iteF (rest fun q => q.2.elim c (fun z => by rw [show hasInside (some i) = Sf47.inside i from rfl, hi] at z; cases z))
        | false => exact iteT (kF (bad (.inr hi)))
/-! ### instructions_with -/
def spCount (CU CL : Addr) : Sp := fun vs H Q E => ∃ (r : Addr) (pl : PLine) (n : Nat), vs = [.ref r, .int n] ∧ LineAt CL H r pl ∧ n ≤ 4096 ∧ ((pl.2.isSome = true ∧ 4096 ≤ n) → E (.ref CU) none H) ∧ (¬ (pl.2.isSome = true ∧ 4096 ≤ n) → Q (.int ((n + (match pl.2 with | some _ => 1 | none => 0) : Nat) : Int)) H)
theorem sc_cnt : FnScope ["line", "instructions"] ["line", "instructions"] (defScope s_instructions_with) := ⟨rfl, rfl, rfl, by decide +kernel, rfl, by decide +kernel, by decide +kernel⟩
theorem ok_count {f : Addr} {fd : FuncData} (F : Fun K "instructions_with" "instructions_with" s_instructions_with f fd) (U : UnTxt K mg CU) (T : LnTxt K mg CL fI fdI) (cD : TxtC mg "INSTRUCTION_LIMIT" (.int 4096)) : FnOk P w K mg base (L2N.CX P w) 1 f fd ["line", "instructions"] (spCount CU CL) := by
  obtain ⟨uD, mD, rD⟩ := cD
  refine okN F sc_cnt (fun vs H Q E h => ?_) (fun cdv A outer s H vs Q E hr h => ?_)
  · obtain ⟨r, pl, n, rfl, _⟩ := h
    rfl
  · refine ⟨_, pss_cons (ps_if (pt_cmpR op_notN (pe_fld (pv 0) (by rfl)) pe_non (nomark _)) (pss_one (ps_aug (i := 1) sc_cnt.nd rfl (Or.inl rfl) pe_int ip_add)) pss_nil)
      (pss_cons (ps_if (pt_cmpR op_gt (pv 1) (pe_glob (by rfl) mD rD) (nomark _))
        (pss_one (L2N.ps_raise rfl (L2N.takes_of rfl rfl rfl rfl) (pmk_bare PySem.F.excBase_Exception U.xF U.gF U.kF (raises_own U.bF U.tF) (by rfl)))) pss_nil)
      (pss_one (ps_ret (pv 1)))), ?_⟩
    obtain ⟨r, ⟨lab, i⟩, n, rfl, ⟨dx, q, hr1, hq⟩, hd, kF, kS⟩ := h
    refine ⟨_, rfl, r, CL, dx, _, _, rfl, hr1, T.cl, T.nN, lnF_name _ _ _ _, rfl, _, rfl, ?_⟩
    cases i with
    | none =>
      refine iteF ⟨_, rfl, _, _, rfl, rfl, _, rfl, if_f (decide_eq_false (by omega)) ⟨_, rfl, ?_⟩⟩
      exact kS fun z => by cases z.1
    | some i =>
      refine iteT ⟨_, rfl, _, _, rfl, rfl, ?_⟩
      refine ⟨_, rfl, _, _, rfl, rfl, _, rfl, ?_⟩
      refine ite2 (fun c => kF ⟨rfl, ?_⟩) (fun c => ⟨_, rfl, kS fun z => c (decide_eq_true ?_)⟩)
      · have q1 : (4096 : Int) < (n : Int) + 1 := of_decide_eq_true c
        omega
      · have := z.2
        show (4096 : Int) < (n : Int) + 1
        omega
end
end Sl
set_option Elab.async false
set_option linter.all false
set_option maxRecDepth 100000
set_option maxHeartbeats 4000000
namespace Sl
open PySem PySem.Spec PyProof.Rows L2 SlM
def LinesAt (CL : Addr) (H : Hp) (a : Addr) (pls : List PLine) : Prop := ∃ rs : List Addr, H a = some (.lst (rs.map V.ref)) ∧ Paired (fun r pl => LineAt CL H r pl) rs pls
theorem paired_at {α β : Type} {R : α → β → Prop} : ∀ {l : List α} {m : List β}, Paired R l m → ∀ {i : Nat} {a : α}, l[i]? = some a → ∃ b, m[i]? = some b ∧ R a b
  | _, _, .nil, i, a, h => by cases h
  | _, _, .cons r t, 0, a, h => by
    cases h
    exact ⟨_, rfl, r⟩
  | _, _, .cons r t, i + 1, a, h => by
    rw [List.getElem?_cons_succ] at h
    obtain ⟨b, h1, h2⟩ := paired_at t h
    exact ⟨b, by rw [List.getElem?_cons_succ]; exact h1, h2⟩
theorem paired_len {α β : Type} {R : α → β → Prop} : ∀ {l : List α} {m : List β}, Paired R l m → l.length = m.length
  | _, _, .nil => rfl
  | _, _, .cons _ t => by rw [List.length_cons, List.length_cons, paired_len t]
theorem lines_same {CL : Addr} {H H' : Hp} {a : Addr} {pls : List PLine} (s : Same H H') (h : LinesAt CL H a pls) : LinesAt CL H' a pls := by
  obtain ⟨rs, h1, h2⟩ := h
  exact ⟨rs, s _ _ h1, Paired.mapP h2 fun r pl e => line_same s e⟩
/-- a dict of names -/
def Has (kvs : List (Key × V)) (ns : List Bytes) : Prop := ∀ w : Bytes, (valV kvs (Sum.inr (S w))).isSome = decide (w ∈ ns)
theorem has_nil : Has [] [] := fun w => rfl
theorem has_put {kvs : List (Key × V)} {ns : List Bytes} (h : Has kvs ns) (w : Bytes) (v : V) : Has (putK kvs (Sum.inr (S w)) v) (ns ++ [w]) := fun x => by
  rw [valV_put]
  by_cases e : x = w
  · subst e
    rw [if_pos rfl]
    exact (decide_eq_true (by simp)).symm
  · rw [if_neg (fun z => e (S_inj (Sum.inr.inj z))), h x]
    exact decide_eq_decide.mpr (by simp [e])
theorem put_len {kvs : List (Key × V)} {k : Key} {v : V} : (putK kvs k v).length ≤ kvs.length + 1 := by
  unfold putK
  split
  · rw [List.length_map]; exact Nat.le_succ _
  · rw [List.length_append]; exact Nat.le_refl _
theorem names_at {pls : List PLine} {i : Nat} {pl : PLine} (h : pls[i]? = some pl) : names (pls.take (i + 1)) = names (pls.take i) ++ (match pl.1 with | some w => [w] | none => []) := by
  rw [List.take_succ, h]
  unfold names
  rw [List.filterMap_append]
  congr 1
  show List.filterMap (fun pl : PLine => pl.1) [pl] = _
  rw [List.filterMap_cons]
  cases pl.1 <;> rfl
section
variable {P : Program} {w : World} {K : PySem.W.Frag} {mg : Str → Option Value} {base : Heap} {CU CL fI : Addr} {fdI : FuncData}
/-! ### labels_of -/
def spLabels (CL : Addr) : Sp := fun vs H Q _ => ∃ (a : Addr) (pls : List PLine), vs = [.ref a] ∧ LinesAt CL H a pls ∧ pls.length ≤ 70000 ∧ ∀ H' d kvs, Same H H' → H d = none → H' d = some (.dK kvs) → Has kvs (names pls) → Q (.ref d) H'
theorem sc_lbs : FnScope ["lines", "labels", "line"] ["lines"] (defScope s_labels_of) := ⟨rfl, rfl, rfl, by decide +kernel, rfl, by decide +kernel, by decide +kernel⟩
theorem ok_labels {f : Addr} {fd : FuncData} (F : Fun K "labels_of" "labels_of" s_labels_of f fd) (T : LnTxt K mg CL fI fdI) : FnOk P w K mg base CX0 1 f fd ["lines"] (spLabels CL) := by
  refine F.ok sc_lbs (fun vs H Q E h => ?_) (fun cdv A outer s H vs Q E hr h => ?_)
  · obtain ⟨a, pls, rfl, _⟩ := h
    rfl
  · have hu := hu_of hr
    refine ⟨_, pss_cons (ps_set (i := 1) sc_lbs.nd rfl (Or.inl rfl) pe_dnewK)
      (pss_cons (ps_for PassesOwn.never rfl (pi_list (pv 0)) (pg_name (i := 2) sc_lbs.nd rfl (Or.inl rfl))
        (pss_one (ps_if (pt_cmpR op_notN (pe_fld (pv 2) (by rfl)) pe_non (nomark _)) (pss_one (ps_dput hu (pv 1) (pe_fld (pv 2) (by rfl)) pe_bl rfl)) pss_nil)))
      (pss_one (ps_ret (pv 1)))), ?_⟩
    obtain ⟨a, pls, rfl, hL, hl, q⟩ := h
    intro d nd
    obtain ⟨rs, h1, h2⟩ := id hL
    have hne : a ≠ d := ne_of_none h1 nd
    have sd : ∀ o, Same H (upd H d o) := fun o x ob e => by rw [upd_ne (ne_of_none e nd)]; exact e
    have ln := paired_len h2
    refine ⟨_, rfl, a, rfl, ⟨_, (sd _).seq (SqL.of h1)⟩, ?_⟩
    refine for_list (K := K) (a := a) (xs := rs.map V.ref) (fun i σ H' => ∃ (v : Option V) (kvs : List (Key × V)), σ = [some (.ref a), some (.ref d), v] ∧ H' = upd H d (.dK kvs) ∧ kvs.length ≤ i ∧ Has kvs (names (pls.take i)))
      ⟨none, [], rfl, rfl, Nat.le_refl _, has_nil⟩ ?_ ?_ ?_
    · rintro i σ H' _ ⟨v, kvs, rfl, rfl, _⟩
      exact (sd _).seq (SqL.of h1)
    · rintro i x σ H' hx ⟨v, kvs, rfl, rfl, hk, hh⟩
      rw [List.getElem?_map] at hx
      obtain ⟨r, hr', rfl⟩ := Option.map_eq_some_iff.mp hx
      obtain ⟨pl, hp, la⟩ := paired_at h2 hr'
      obtain ⟨dx, p, e1, _⟩ := line_same (sd (.dK kvs)) la
      have hi : i < pls.length := (List.getElem?_eq_some_iff.mp hp).1
      have en := names_at hp
      refine ⟨_, rfl, r, CL, dx, _, _, rfl, e1, T.cl, T.nL, lnF_label _ _ _ _, rfl, _, rfl, ?_⟩
      rw [lab_non]
      cases hlab : pl.1 with
      | none =>
        rw [hlab, List.append_nil] at en
        refine iteF ⟨_, kvs, rfl, rfl, Nat.le_succ_of_le hk, ?_⟩
        rw [en]
        exact hh
      | some wd =>
        rw [hlab] at en e1
        refine iteT ⟨_, rfl, _, rfl, r, CL, dx, _, _, rfl, e1, T.cl, T.nL, lnF_label _ _ _ _, d, _, rfl, DPut.k (k := Sum.inr (S wd)) upd_same (Nat.lt_of_le_of_lt hk (Nat.lt_of_lt_of_le hi (Nat.le_trans hl (by decide)))), ?_⟩
        refine ⟨_, _, rfl, upd_upd, Nat.le_trans put_len (Nat.succ_le_succ hk), ?_⟩
        rw [en]
        exact has_put hh wd _
    · rintro σ H' ⟨v, kvs, rfl, rfl, hk, hh⟩
      rw [List.length_map, ln, List.take_length] at hh
      exact ⟨_, rfl, q _ d kvs (sd _) nd upd_same hh⟩
end
end Sl
set_option Elab.async false
set_option linter.all false
set_option maxRecDepth 100000
set_option maxHeartbeats 4000000
namespace Sl
open PySem PySem.Spec PyProof.Rows L2 SlM
def jumpN : List Bytes := [Sf47.txt "JMP", Sf47.txt "JMPC", Sf47.txt "JMPCN"]
theorem bin_jump (o : Sf47.Bin) : jumpN.contains (binName o) = false := by
  cases o with
  | logic o b => cases o <;> cases b <;> decide +kernel
  | arith o => cases o <;> decide +kernel
  | cmp o => cases o <;> decide +kernel
theorem jump_yes (k : Sf47.Jump) (l : Bytes) : jumpN.contains (insKV (.jmp k l)).1 = true := by
  cases k
  · exact (by decide +kernel : jumpN.contains (Sf47.txt "JMP") = true)
  · exact (by decide +kernel : jumpN.contains (Sf47.txt "JMPC") = true)
  · exact (by decide +kernel : jumpN.contains (Sf47.txt "JMPCN") = true)
theorem jump_no (i : Sf47.Insn) (h : ∀ k l, i ≠ .jmp k l) : jumpN.contains (insKV i).1 = false := by
  cases i with
  | bin o x => exact bin_jump o
  | open_ o x => exact bin_jump o
  | ld x => exact (by decide +kernel : jumpN.contains (Sf47.txt "LD") = false)
  | ldn b => exact (by decide +kernel : jumpN.contains (Sf47.txt "LDN") = false)
  | st n b =>
    cases n
    · exact (by decide +kernel : jumpN.contains (Sf47.txt "ST") = false)
    · exact (by decide +kernel : jumpN.contains (Sf47.txt "STN") = false)
  | stw n => exact (by decide +kernel : jumpN.contains (Sf47.txt "ST") = false)
  | put n b =>
    cases n
    · exact (by decide +kernel : jumpN.contains (Sf47.txt "R") = false)
    · exact (by decide +kernel : jumpN.contains (Sf47.txt "S") = false)
  | not => exact (by decide +kernel : jumpN.contains (Sf47.txt "NOT") = false)
  | close => exact (by decide +kernel : jumpN.contains (Sf47.txt ")") = false)
  | jmp k l => exact absurd rfl (h k l)
  | ret c =>
    cases c
    · exact (by decide +kernel : jumpN.contains (Sf47.txt "RET") = false)
    · exact (by decide +kernel : jumpN.contains (Sf47.txt "RETC") = false)
  | timer k t w =>
    cases k
    · exact (by decide +kernel : jumpN.contains (Sf47.txt "TON") = false)
    · exact (by decide +kernel : jumpN.contains (Sf47.txt "TOF") = false)
    · exact (by decide +kernel : jumpN.contains (Sf47.txt "TP") = false)
  | ctu c w => exact (by decide +kernel : jumpN.contains (Sf47.txt "CTU") = false)
  | rc c => exact (by decide +kernel : jumpN.contains (Sf47.txt "RC") = false)
  | edge u m =>
    cases u
    · exact (by decide +kernel : jumpN.contains (Sf47.txt "DOWN") = false)
    · exact (by decide +kernel : jumpN.contains (Sf47.txt "UP") = false)
theorem walk_enumK {K : PySem.W.Frag} {a : Addr} {k : Int} {xs : List V} : Walk (IteK K a k) xs.length (fun H => SqL K H a xs) (fun i H v H' => ∃ T x, v = .ref T ∧ H T = none ∧ H' = upd H T (.tup [.int (k + (i : Nat)), x]) ∧ xs[i]? = some x) := by
  refine ⟨fun i _ hi q => ⟨xs, xs[i], q, by simp [hi]⟩, fun _ q => ⟨xs, q, rfl⟩, fun i H v H' _ q y => ?_⟩
  obtain ⟨T, x, h1, h2, h3, h4⟩ := y
  exact ⟨T, x, h1, h2, h3, h4 xs q⟩
section
variable {P : Program} {w : World} {K : PySem.W.Frag} {mg : Str → Option Value} {base : Heap} {CU CN fN CL fI : Addr} {fdI : FuncData}
theorem okC {x qual : Str} {st : Stmt} {f : Addr} {fd : FuncData} {N ps : List Str} {k : Nat} {sp : Sp} (F : Fun K x qual st f fd) (S : FnScope N ps (defScope st)) (len : ∀ vs H Q E, sp vs H Q E → vs.length = ps.length) (hbody : Walked (L2.CX P w) P w K mg base N qual st f k sp) : FnOk P w K mg base (L2.CX P w) (k + 1) f fd ps sp := ok_def F S len hbody
/-- NotAProgram(n) goes out -/
def Out (CN : Addr) (E : XK) (H : Hp) (n : Int) : Prop := ∀ H' d, Same H H' → H d = none → H' d = some (.xd [(("line" : Str), .int n)]) → E (.ref CN) (some d) H'
/-! ### refuse_wrong_labels -/
def spRefuse (CL CN : Addr) : Sp := fun vs H Q E => ∃ (a : Addr) (pls : List PLine), vs = [.ref a] ∧ LinesAt CL H a pls ∧ pls.length ≤ 70000 ∧
  (∀ i, i < pls.length → Bad pls i → (∀ j, j < i → ¬ Bad pls j) → Out CN E H ((i + 1 : Nat) : Int)) ∧ ((∀ j, j < pls.length → ¬ Bad pls j) → ∀ H', Same H H' → Q .non H')
theorem sc_ref : FnScope ["lines", "labels", "before", "number", "line"] ["lines"] (defScope s_refuse_wrong_labels) := ⟨rfl, rfl, rfl, by decide +kernel, rfl, by decide +kernel, by decide +kernel⟩
theorem ok_refuse {f : Addr} {fd : FuncData} (F : Fun K "refuse_wrong_labels" "refuse_wrong_labels" s_refuse_wrong_labels f fd) (NT : PySem.NapX.NapTxt K mg CN fN) (T : LnTxt K mg CL fI fdI) (he : mg "enumerate" = none) (C : TupC K mg "JUMPS" jumpN)
    (L : Df P w K mg base CX0 1 "labels_of" ["lines"] (spLabels CL)) : FnOk P w K mg base (L2.CX P w) 2 f fd ["lines"] (spRefuse CL CN) := by
  obtain ⟨fL, fdL, mL, kL, bL, FL⟩ := L
  obtain ⟨uC, mC, tC⟩ := C
  obtain ⟨aC, rfl, qC⟩ := id tC
  refine okC F sc_ref (fun vs H Q E h => ?_) (fun cdv A outer s H vs Q E hr h => ?_)
  · obtain ⟨a, pls, rfl, _⟩ := h
    rfl
  · have hu := hu_of hr
    refine ⟨_, pss_cons (ps_set (i := 1) sc_ref.nd rfl (Or.inl rfl) (pe_call FL hr (by rfl) mL kL bL .nil pass0 (pa_cons (pv 0) pa_nil)))
      (pss_cons (ps_set (i := 2) sc_ref.nd rfl (Or.inl rfl) pe_dnewK)
      (pss_one (ps_for PassesOwn.leaving rfl (pi_enumK (by decide) (by decide) (by rfl) he (pa_cons (pv 0) pa_nil)) (pg_tup rfl (pgs_cons (pg_name (i := 3) sc_ref.nd rfl (Or.inl rfl)) (pgs_cons (pg_name (i := 4) sc_ref.nd rfl (Or.inl rfl)) pgs_nil)))
        (pss_cons (ps_if (pt_cmp (pc_dinN hu (pe_fld (pv 4) (by rfl)) (pv 2)) (by rfl)) (pss_one (L2.ps_raise rfl (L2.takes_of rfl rfl rfl rfl) (pmk_nap NT hr (pa_cons (pv 3) pa_nil)))) pss_nil)
        (pss_cons (ps_if (pt_cmpR op_notN (pe_fld (pv 4) (by rfl)) pe_non (nomark _)) (pss_one (ps_dput hu (pv 2) (pe_fld (pv 4) (by rfl)) pe_bl rfl)) pss_nil)
        (pss_one (ps_if (PW.pt (pw_and (pt_cmpR op_in_seq (pe_fld (pv 4) (by rfl)) (pe_glob (v := .ref aC) (by rfl) mC rfl) (by rfl))
            (pw_and1 (pt_cmp (pc_dnotin hu (pe_ix ix_tup (pe_ix ix_list (pe_fld (pv 4) (by rfl)) pe_int (fun _ _ => rfl)) pe_int (fun _ _ => rfl)) (pv 1)) (by rfl)))))
          (pss_one (L2.ps_raise rfl (L2.takes_of rfl rfl rfl rfl) (pmk_nap NT hr (pa_cons (pv 3) pa_nil)))) pss_nil))))))), ?_⟩
    obtain ⟨a, pls, rfl, hL, hl, kF, kS⟩ := h
    obtain ⟨rs, h1, h2⟩ := id hL
    have ln := paired_len h2
    refine ⟨_, rfl, a, pls, rfl, hL, hl, fun H1 dl kl s1 n1 e1 hkl => ?_⟩
    intro db ndb
    have hndb : H db = none := s1.free ndb
    have neD : dl ≠ db := ne_of_none e1 ndb
    refine ⟨_, rfl, a, _, rfl, (same_upd s1 hndb).seq (SqL.of h1), ?_⟩
    refine for_it (walk_enumK (xs := rs.map V.ref)) (fun i σ H' => ∃ (v1 v2 : Option V) (kvs : List (Key × V)), σ = [some (.ref a), some (.ref dl), some (.ref db), v1, v2] ∧ Same H H' ∧ H' dl = some (.dK kl) ∧ H' db = some (.dK kvs) ∧ kvs.length ≤ i ∧ Has kvs (names (pls.take i)) ∧ ∀ j, j < i → ¬ Bad pls j)
      ⟨none, none, [], rfl, same_upd s1 hndb, by rw [upd_ne neD]; exact e1, upd_same, Nat.le_refl _, has_nil, fun j hj => absurd hj (Nat.not_lt_zero j)⟩ ?_ ?_ ?_
    · rintro i σ H' _ ⟨v1, v2, kvs, rfl, sm, _⟩
      exact sm.seq (SqL.of h1)
    · rintro i x σ H2 H3 hi ⟨v1, v2, kvs, rfl, sm, el, eb, hk, hh, hg⟩ ⟨Tu, x, rfl, nT, rfl, hx⟩
      rw [List.getElem?_map] at hx
      obtain ⟨r, hr', rfl⟩ := Option.map_eq_some_iff.mp hx
      obtain ⟨pl, hp, la⟩ := paired_at h2 hr'
      have hi : i < pls.length := (List.getElem?_eq_some_iff.mp hp).1
      have en := names_at hp
      refine ⟨Tu, _, rfl, .inl (.inl upd_same), rfl, _, _, rfl, _, _, rfl, rfl, ?_⟩
      have nTH : H Tu = none := sm.free nT
      have sm3 : Same H (upd H2 Tu (.tup [.int (1 + (i : Nat)), .ref r])) := same_upd sm nTH
      have el3 : (upd H2 Tu (.tup [.int (1 + (i : Nat)), .ref r])) dl = some (.dK kl) := by rw [upd_ne (ne_of_none el nT)]; exact el
      have eb3 : (upd H2 Tu (.tup [.int (1 + (i : Nat)), .ref r])) db = some (.dK kvs) := by rw [upd_ne (ne_of_none eb nT)]; exact eb
      generalize upd H2 Tu (.tup [.int (1 + (i : Nat)), .ref r]) = H3 at sm3 el3 eb3 ⊢
      -- NotAProgram(number) goes out
      have out : ∀ H4, Same H H4 → Bad pls i → tMkNap CN (tCons (tVar 3) tNil) [some (.ref a), some (.ref dl), some (.ref db), some (.int (1 + (i : Nat))), some (.ref r)] H4 (fun cls d H' => E cls d H') := fun H4 s4 hb => by
        refine ⟨_, rfl, _, rfl, fun d nd => ?_⟩
        refine kF i hi hb hg _ d (same_upd s4 (s4.free nd)) (s4.free nd) ?_
        rw [upd_same, show (1 + (i : Nat) : Int) = ((i + 1 : Nat) : Int) by omega]
      -- the third test
      have third : ∀ (H4 : Hp) (kvs' : List (Key × V)) (D : Ends), (∀ σ' H', (∃ (v1 v2 : Option V) (kvs : List (Key × V)), σ' = [some (.ref a), some (.ref dl), some (.ref db), v1, v2] ∧ Same H H' ∧ H' dl = some (.dK kl) ∧ H' db = some (.dK kvs) ∧ kvs.length ≤ i + 1 ∧ Has kvs (names (pls.take (i + 1))) ∧ ∀ j, j < i + 1 → ¬ Bad pls j) → D.nx σ' H') →
          Same H H4 → H4 dl = some (.dK kl) → H4 db = some (.dK kvs') → kvs'.length ≤ i + 1 → Has kvs' (names (pls.take (i + 1))) → (∀ wd, pl.1 = some wd → wd ∉ names (pls.take i)) →
          tIfS (tAnd (tTest (tOp (rIn K false) (tFld K (tVar 4) "name") (L2.tC (V.ref aC)))) (tB (tDNotIn (tOp (L2.rIxT K) (tOp (rIxL K) (tFld K (tVar 4) "operands") (L2.tC (V.int 0))) (L2.tC (V.int 1))) (tVar 1))))
            (fun x σ H => tMkNap CN (tCons (tVar 3) tNil) σ H fun cls d H' => E cls d H') tNext D [some (.ref a), some (.ref dl), some (.ref db), some (.int (1 + (i : Nat))), some (.ref r)] H4 := by
        intro H4 kvs' D hD s4 el4 eb4 hk4 hh4 hnd
        obtain ⟨dx, p, er, ops⟩ := line_same s4 la
        have fine : ¬ Bad pls i → D.nx [some (.ref a), some (.ref dl), some (.ref db), some (.int (1 + (i : Nat))), some (.ref r)] H4 := fun hb => hD _ _ ⟨_, _, kvs', rfl, s4, el4, eb4, hk4, hh4, fun j hj => by
          by_cases c : j = i
          · rw [c]; exact hb
          · exact hg j (by omega)⟩
        refine ⟨_, rfl, r, CL, dx, _, _, rfl, er, T.cl, T.nN, lnF_name _ _ _ _, aC, _, rfl, .inr (.inr qC), ?_, flat_strs _, _, rfl, ?_⟩
        · cases pl.2 <;> rfl
        obtain ⟨lab, ins⟩ := pl
        cases ins with
        | none =>
          refine iteF (iteF (fine ?_))
          rintro ⟨x, j, e, hb⟩
          rw [hp] at e
          cases e
          rcases hb with ⟨wd, h3, h4⟩ | ⟨k, l, h3, h4⟩
          · exact hnd wd h3 h4
          · cases h3
        | some ins =>
          show (if inV (V.str (S (insKV ins).1)) (jumpN.map fun b => V.str (S b)) = true then _ else _)
          rw [in_strs]
          by_cases hj : ∃ k l, ins = .jmp k l
          · obtain ⟨k, l, rfl⟩ := hj
            rw [jump_yes]
            refine iteT ?_
            obtain ⟨os, eo, po⟩ := ops
            have po : Paired (fun r o => H4 r = some (.tup (opdV o))) os [(Sf47.txt "label", Sum.inl l)] := po
            cases po with
            | cons h0 ht =>
              rename_i r0 ro
              cases ht
              refine ⟨_, rfl, r, CL, dx, _, _, rfl, er, T.cl, T.nP, lnF_operands _ _ _ _, p, _, _, .ref r0, rfl, rfl, SqL.of eo, atI_nat (j := 0) rfl, r0, _, _, .str (S l), rfl, rfl, .inl (.inl h0), atI_nat (j := 1) rfl, ?_⟩
              refine ⟨_, rfl, dl, _, rfl, DGet.k (k := Sum.inr (S l)) el4, _, rfl, ?_⟩
              rw [hkl l]
              by_cases hin : l ∈ names pls
              · refine if_f (by rw [decide_eq_true hin]; rfl) (fine ?_)
                rintro ⟨x, j, e, hb⟩
                rw [hp] at e
                cases e
                rcases hb with ⟨wd, h3, h4⟩ | ⟨k', l', h3, h4⟩
                · exact hnd wd h3 h4
                · cases h3
                  exact h4 hin
              · exact if_t (by rw [decide_eq_false hin]; rfl) (out H4 s4 ⟨lab, _, hp, .inr ⟨k, l, rfl, hin⟩⟩)
          · rw [jump_no ins fun k l e => hj ⟨k, l, e⟩]
            refine iteF (iteF (fine ?_))
            rintro ⟨x, j, e, hb⟩
            rw [hp] at e
            cases e
            rcases hb with ⟨wd, h3, h4⟩ | ⟨k', l', h3, h4⟩
            · exact hnd wd h3 h4
            · cases h3
              exact hj ⟨_, _, rfl⟩
      obtain ⟨dx, p, er, ops⟩ := line_same sm3 la
      refine ⟨_, rfl, r, CL, dx, _, _, rfl, er, T.cl, T.nL, lnF_label _ _ _ _, _, rfl, ?_⟩
      cases hlab : pl.1 with
      | none =>
        rw [hlab, List.append_nil] at en
        rw [hlab] at er
        refine .inr ⟨db, kvs, rfl, rfl, .inl eb3, _, rfl, iteF ?_⟩
        refine ⟨_, rfl, r, CL, dx, _, _, rfl, er, T.cl, T.nL, lnF_label _ _ _ _, rfl, _, rfl, iteF ?_⟩
        exact third H3 kvs _ (fun σ' H' h => h) sm3 el3 eb3 (Nat.le_succ_of_le hk) (by rw [en]; exact hh) fun wd h => by rw [hlab] at h; cases h
      | some wd =>
        rw [hlab] at en er
        refine .inl ⟨db, _, rfl, DGet.k (k := Sum.inr (S wd)) eb3, _, rfl, ?_⟩
        rw [hh wd]
        by_cases hin : wd ∈ names (pls.take i)
        · exact if_t (decide_eq_true hin) (out H3 sm3 ⟨_, _, hp, .inl ⟨wd, hlab, hin⟩⟩)
        · refine if_f (decide_eq_false hin) ?_
          refine ⟨_, rfl, r, CL, dx, _, _, rfl, er, T.cl, T.nL, lnF_label _ _ _ _, rfl, _, rfl, iteT ?_⟩
          refine ⟨_, rfl, _, rfl, r, CL, dx, _, _, rfl, er, T.cl, T.nL, lnF_label _ _ _ _, db, _, rfl, DPut.k (k := Sum.inr (S wd)) eb3 (Nat.lt_of_le_of_lt hk (Nat.lt_of_lt_of_le hi (Nat.le_trans hl (by decide)))), ?_⟩
          refine third _ _ _ (fun σ' H' h => h) (same_upd sm3 hndb) (by rw [upd_ne neD]; exact el3) upd_same (Nat.le_trans put_len (Nat.succ_le_succ hk)) (by rw [en]; exact has_put hh wd _) fun wd' h => ?_
          rw [hlab] at h
          cases h
          exact hin
    · rintro σ H' ⟨v1, v2, kvs, rfl, sm, _, _, _, _, hg⟩
      rw [List.length_map, ln] at hg
      exact kS hg H' sm
end
end Sl
set_option Elab.async false
set_option linter.all false
set_option maxRecDepth 100000
set_option maxHeartbeats 4000000
namespace Sl
open PySem PySem.Spec PyProof.Rows L2 SlM
theorem drop_atG {α : Type} {l : List α} {i : Nat} {x : α} (h : l[i]? = some x) : l.drop i = x :: l.drop (i + 1) := by
  obtain ⟨hi, e⟩ := List.getElem?_eq_some_iff.mp h
  rw [List.drop_eq_getElem_cons hi, e]
theorem reads_step {pls : List PLine} {d : Nat} (h8 : d ≤ 8) {b : Bytes} {r : List Bytes} : Sf47.reads (pls.length + 1) (prog pls d) (b :: r) =
    match (readLine b).bind fun pl => (depthStep pl d).bind fun d' => if pl.2.isSome = true ∧ 4096 ≤ (codeOf 1 pls).length then none else some (pl, d') with
    | some (pl, d') => Sf47.reads (pls.length + 1 + 1) (prog (pls ++ [pl]) d') r
    | none => .error (pls.length + 1) := by
  show (match (prog pls d).line (pls.length + 1) b with | some q => Sf47.reads (pls.length + 1 + 1) q r | none => .error (pls.length + 1)) = _
  rw [line_is (prog pls d) _ b h8]
  cases readLine b with
  | none => rfl
  | some pl =>
    rw [Option.bind_some, Option.bind_some]
    show (match ((depthStep pl d).bind fun d' => if pl.2.isSome = true ∧ 4096 ≤ (codeOf 1 pls).length then none else some (stepTo (prog pls d) (pls.length + 1) pl d')) with | some q => _ | none => _) = _
    cases depthStep pl d with
    | none => rfl
    | some d' =>
      rw [Option.bind_some, Option.bind_some]
      by_cases c : pl.2.isSome = true ∧ 4096 ≤ (codeOf 1 pls).length
      · rw [if_pos c, if_pos c]
      · rw [if_neg c, if_neg c, step_prog]
theorem code_next (pls : List PLine) (pl : PLine) : (codeOf 1 (pls ++ [pl])).length = (codeOf 1 pls).length + (match pl.2 with | some _ => 1 | none => 0) := by
  rw [code_snoc, List.length_append]
  congr 1
  cases pl.2 <;> rfl
theorem depth_le {pl : PLine} {d d' : Nat} (h8 : d ≤ 8) (h : depthStep pl d = some d') : d' ≤ 8 := by
  obtain ⟨lab, i⟩ := pl
  cases i with
  | none =>
    rw [depth_none] at h
    split at h
    · cases h
    · cases h
      exact h8
  | some i =>
    rw [depth_some lab i d h8] at h
    split at h
    · cases h
    · split at h
      · cases h
      · split at h
        · cases h
        · cases h
          omega
section
variable {P : Program} {w : World} {K : PySem.W.Frag} {mg : Str → Option Value} {base : Heap} {CU CN fN CL fI : Addr} {fdI : FuncData}
/-! ### read_lines -/
def spRLines (K : PySem.W.Frag) (CL CN : Addr) : Sp := fun vs H Q E => ∃ (a : Addr) (rows : List Bytes), vs = [.ref a] ∧ SqL K H a (rows.map fun b => V.str (S b)) ∧ rows.length ≤ 65536 ∧ (∀ b ∈ rows, b.length ≤ 70000) ∧
  (∀ k, Sf47.reads 1 ⟨[], [], 0⟩ rows = .error k → Out CN E H (k : Nat)) ∧ (∀ pls, Sf47.reads 1 ⟨[], [], 0⟩ rows = .ok (prog pls 0) → pls.length = rows.length → ∀ H' p, Same H H' → H p = none → LinesAt CL H' p pls → Q (.ref p) H')
theorem sc_rls : FnScope ["rows", "lines", "depth", "instructions", "row", "line"] ["rows"] (defScope s_read_lines) := ⟨rfl, rfl, rfl, by decide +kernel, rfl, by decide +kernel, by decide +kernel⟩
theorem ok_rlines {f : Addr} {fd : FuncData} (F : Fun K "read_lines" "read_lines" s_read_lines f fd) (U : UnTxt K mg CU) (NT : PySem.NapX.NapTxt K mg CN fN) (hlen : mg "len" = none)
    (R : Df P w K mg base (L2N.CX P w) 8 "read_line" ["row"] (spLine CU CL)) (D : Df P w K mg base (L2N.CX P w) 1 "depth_behind" ["line", "depth"] (spDepth CU CL)) (C : Df P w K mg base (L2N.CX P w) 1 "instructions_with" ["line", "instructions"] (spCount CU CL)) :
    FnOk P w K mg base (L2.CX P w) 9 f fd ["rows"] (spRLines K CL CN) := by
  obtain ⟨fR, fdR, mR, kR, bR, FR⟩ := R
  obtain ⟨fD, fdD, mD, kD, bD, FD⟩ := D
  obtain ⟨fC, fdC, mC, kC, bC, FC⟩ := C
  refine okC F sc_rls (fun vs H Q E h => ?_) (fun cdv A outer s H vs Q E hr h => ?_)
  · obtain ⟨a, rows, rfl, _⟩ := h
    rfl
  · have hr1 : Room 1 _ := hr.mono (by decide)
    have hdp := hr1.dp
    have hd2 : (A.deeper (envOfC "read_lines" (defScope s_read_lines) s.heap.objs.size f cdv)).depth + 1 < recursionLimit := by omega
    refine ⟨_, pss_cons (ps_set (i := 1) sc_rls.nd rfl (Or.inl rfl) (pe_lst pa_nil))
      (pss_cons (ps_set (i := 2) sc_rls.nd rfl (Or.inl rfl) pe_int)
      (pss_cons (ps_set (i := 3) sc_rls.nd rfl (Or.inl rfl) pe_int)
      (pss_cons (ps_for PassesOwn.leaving rfl (pi_list (pv 0)) (pg_name (i := 4) sc_rls.nd rfl (Or.inl rfl))
        (pss_cons (L2H.ps_try_onlyX (c := .ref CU) (ts := fun _ _ _ _ σ H => tMkNap CN (tCons (tOp (rI0 fun i j => V.int (i + j)) (tCB (fun xs H Q => ∃ p ys, xs = [V.ref p] ∧ (SqL K H p ys ∨ SqT K H p ys) ∧ Q (.int ys.length) H) (tCons (tVar 1) tNil)) (L2.tC (.int 1))) tNil) σ H fun cls d H' => E cls d H') rfl rfl ⟨by rfl, by decide, .inl U.gF⟩ (L2H.passesAt_of rfl) (L2.takes_of rfl rfl rfl rfl)
            (fun W pn xe tkN tkP po =>
              pss_cons (ps_set (i := 5) sc_rls.nd rfl (Or.inl rfl) (pe_callS FR hr (by rfl) mR kR bR (fun σ => L2N.passAt tkN σ) (pa_cons (pv 4) pa_nil)))
              (pss_cons (ps_set (i := 2) sc_rls.nd rfl (Or.inl rfl) (pe_callS FD hr1 (by rfl) mD kD bD (fun σ => L2N.passAt tkN σ) (pa_cons (pv 5) (pa_cons (pv 2) pa_nil))))
              (pss_one (ps_set (i := 3) sc_rls.nd rfl (Or.inl rfl) (pe_callS FC hr1 (by rfl) mC kC bC (fun σ => L2N.passAt tkN σ) (pa_cons (pv 5) (pa_cons (pv 3) pa_nil)))))))
            (fun a oe cls d pn zn hf tkS hot => pss_one (L2H.ps_raiseHN hot tkS (pmk5_nap NT hd2 (pa_cons (pe_op op_add (pe_callB call_len_seq (by rfl) hlen PySem.boot_len (pa_cons (pv 1) pa_nil)) pe_int) pa_nil)))))
        (pss_one (ps_expr (pe_bm PySem.F.plainAttrs_list PySem.F.slot_list_append PySem.F.type_list_append mt_append (pv 1) (pa_cons (pv 5) pa_nil))))))
      (pss_cons (ps_if (pt_cmpR op_gt (pv 2) pe_int (nomark _)) (pss_one (L2.ps_raise rfl (L2.takes_of rfl rfl rfl rfl) (pmk_nap NT hr1 (pa_cons (pe_op op_add (pe_callB call_len_seq (by rfl) hlen PySem.boot_len (pa_cons (pv 1) pa_nil)) pe_int) pa_nil)))) pss_nil)
      (pss_one (ps_ret (pv 1))))))), ?_⟩
    obtain ⟨a, rows, rfl, hS, hl, hb, kF, kS⟩ := h
    refine ⟨by show 0 ≤ sizeLine; decide, fun p np => ?_⟩
    refine ⟨_, rfl, a, rfl, ⟨_, (same_upd (Same.refl H) np).seq hS⟩, ?_⟩
    have key : ∀ i (pls : List PLine) (rs : List Addr) (H4 : Hp) (σ : L2.St), Same H H4 → H4 p = some (.lst (rs.map V.ref)) → rs.length = i → σ[1]? = some (some (.ref p)) → Sf47.reads 1 ⟨[], [], 0⟩ rows = .error (i + 1) →
        tMkNap CN (tCons (tOp (rI0 fun i j => V.int (i + j)) (tCB (fun xs H Q => ∃ p ys, xs = [V.ref p] ∧ (SqL K H p ys ∨ SqT K H p ys) ∧ Q (.int ys.length) H) (tCons (tVar 1) tNil)) (L2.tC (.int 1))) tNil) σ H4 fun cls d H' => E cls d H' := by
      intro i pls rs H4 σ s4 e4 el ev er
      refine ⟨_, ev, p, _, rfl, .inl (SqL.of e4), _, _, rfl, rfl, _, rfl, fun d nd => ?_⟩
      refine kF _ er _ d (same_upd s4 (s4.free nd)) (s4.free nd) ?_
      rw [upd_same, List.length_map, el]
      rfl
    refine for_list (K := K) (a := a) (xs := rows.map fun b => V.str (S b)) (fun i σ H' => ∃ (v1 v2 : Option V) (pls : List PLine) (rs : List Addr) (d : Nat), σ = [some (.ref a), some (.ref p), some (.int (d : Nat)), some (.int ((codeOf 1 pls).length : Nat)), v1, v2] ∧ Same H H' ∧
        H' p = some (.lst (rs.map V.ref)) ∧ Paired (fun r pl => LineNew CL (upd H p (.lst [])) H' r pl) rs pls ∧ pls.length = i ∧ d ≤ 8 ∧ (codeOf 1 pls).length ≤ 4096 ∧ Sf47.reads 1 ⟨[], [], 0⟩ rows = Sf47.reads (i + 1) (prog pls d) (rows.drop i))
      ⟨none, none, [], [], 0, rfl, same_upd (Same.refl H) np, upd_same, .nil, rfl, Nat.zero_le _, Nat.zero_le _, rfl⟩ ?_ ?_ ?_
    · rintro i σ H' _ ⟨v1, v2, pls, rs, d, rfl, sm, _⟩
      exact sm.seq hS
    · rintro i x σ H1 hx ⟨v1, v2, pls, rs, d, rfl, sm, ep, hpr, hi, h8, h4, er⟩
      rw [List.getElem?_map] at hx
      obtain ⟨b, hbi, rfl⟩ := Option.map_eq_some_iff.mp hx
      have hlt : i < rows.length := (List.getElem?_eq_some_iff.mp hbi).1
      have hlr : rs.length = i := (paired_len hpr).trans hi
      rw [drop_atG hbi, ← hi, reads_step h8] at er
      have np1 : ∀ q, H1 q = none → q ≠ p := fun q nq z => by rw [z, ep] at nq; cases nq
      -- the clause takes it
      have caught : ∀ (H4 : Hp) (σ : L2.St) (D : Ends), Same H1 H4 → σ[1]? = some (some (.ref p)) → Sf47.reads 1 ⟨[], [], 0⟩ rows = .error (pls.length + 1) →
          wOnly K (.ref CU) (fun _ _ _ _ σ H => tMkNap CN (tCons (tOp (rI0 fun i j => V.int (i + j)) (tCB (fun xs H Q => ∃ p ys, xs = [V.ref p] ∧ (SqL K H p ys ∨ SqT K H p ys) ∧ Q (.int ys.length) H) (tCons (tVar 1) tNil)) (L2.tC (.int 1))) tNil) σ H fun cls d H' => E cls d H') (fun cls d _ H => E cls d H) D (.ref CU) none σ H4 :=
        fun H4 σ D s4 ev e => ⟨true, U.eF, fun _ x nx => key i pls rs H4 σ (sm.trans s4) (s4 _ _ ep) hlr ev (by rw [← hi]; exact e), fun z => by cases z⟩
      refine ⟨_, rfl, b, rfl, hb b (List.mem_of_getElem? hbi), fun z H4 s4 => caught H4 _ _ s4 rfl ?_, fun pl hpl H2 r s2 nr la => ?_⟩
      · rw [er, z]
        rfl
      rw [hpl, Option.bind_some] at er
      refine ⟨_, rfl, _, rfl, r, pl, d, rfl, la.here, h8, fun z => caught H2 _ _ s2 rfl ?_, fun d' hd' => ?_⟩
      · rw [er, z]
        rfl
      rw [hd', Option.bind_some] at er
      refine ⟨_, rfl, _, rfl, r, pl, (codeOf 1 pls).length, rfl, la.here, h4, fun z => caught H2 _ _ s2 rfl ?_, fun hc => ?_⟩
      · rw [er, if_pos z]
      rw [if_neg hc] at er
      refine ⟨_, rfl, .inl ⟨rfl, _, SqL.of (s2 _ _ ep)⟩, _, rfl, p, _, _, rfl, rfl, s2 _ _ ep, by rw [List.length_map, hlr]; exact Nat.lt_of_lt_of_le hlt (Nat.le_trans hl (by decide)), ?_⟩
      have hnp : ∀ q pl', LineNew CL (upd H p (.lst [])) H2 q pl' → LineNew CL (upd H p (.lst [])) (upd H2 p (.lst (rs.map V.ref ++ [V.ref r]))) q pl' := fun q pl' ⟨dx, ops, e1, ⟨os, e2, e3⟩, e4⟩ => by
        have ep2 := s2 _ _ ep
        have n1 : q ≠ p := fun z => by rw [z, ep2] at e1; cases e1
        have n2 : ops ≠ p := fun z => by rw [z, upd_same] at e4; cases e4
        refine ⟨dx, ops, by rw [upd_ne n1]; exact e1, ⟨os, by rw [upd_ne n2]; exact e2, Paired.mapP e3 fun t o e => ?_⟩, e4⟩
        have n3 : t ≠ p := fun z => by rw [z, ep2] at e; cases e
        rw [upd_ne n3]
        exact e
      have lq : LineNew CL (upd H p (.lst [])) H2 r pl := by
        obtain ⟨dx, ops, e1, e2, e3⟩ := la
        refine ⟨dx, ops, e1, e2, ?_⟩
        rw [upd_ne (np1 _ e3)]
        exact sm.free e3
      refine ⟨_, _, pls ++ [pl], rs ++ [r], d', by rw [code_next]; rfl, fun x ob e => ?_, ?_, paired_snoc (hnp _ _ lq) (Paired.mapP hpr fun q pl' ⟨dx, ops, e1, e2, e3⟩ => hnp _ _ ⟨dx, ops, s2 _ _ e1, ops_same s2 e2, e3⟩), by rw [List.length_append, List.length_singleton, hi], depth_le h8 hd', ?_, ?_⟩
      · rw [upd_ne (ne_of_none e np)]
        exact s2 _ _ (sm x ob e)
      · rw [upd_same, List.map_append]
        rfl
      · rw [code_next]
        cases q : pl.2 with
        | none => exact h4
        | some i =>
          rw [q] at hc
          have : ¬ 4096 ≤ (codeOf 1 pls).length := fun z => hc ⟨rfl, z⟩
          show (codeOf 1 pls).length + 1 ≤ 4096
          omega
      · rw [er, hi]
    · rintro σ H1 ⟨v1, v2, pls, rs, d, rfl, sm, ep, hpr, hi, h8, h4, er⟩
      rw [List.length_map] at hi er
      rw [List.drop_length] at er
      have er : Sf47.reads 1 ⟨[], [], 0⟩ rows = if d = 0 then .ok (prog pls d) else .error (rows.length + 1) := er
      refine ⟨_, rfl, _, _, rfl, rfl, _, rfl, ?_⟩
      by_cases d0 : d = 0
      · refine if_f (decide_eq_false (by omega)) ⟨_, rfl, ?_⟩
        subst d0
        rw [if_pos rfl] at er
        exact kS pls er hi H1 p sm np ⟨rs, ep, Paired.mapP hpr fun q pl' l => l.here⟩
      · refine if_t (decide_eq_true (by omega)) ?_
        rw [if_neg d0] at er
        exact key rows.length pls rs H1 _ sm ep ((paired_len hpr).trans hi) rfl er
end
end Sl
set_option Elab.async false
set_option linter.all false
set_option maxRecDepth 100000
set_option maxHeartbeats 4000000
namespace Sl
open PySem PySem.Spec PyProof.Rows L2 SlM
theorem lines_len : ∀ (b w : Bytes), (Sf47.linesOf b w).length ≤ b.length + (if w = [] then 0 else 1)
  | [], [] => Nat.le_refl _
  | [], _ :: _ => Nat.le_refl _
  | c :: r, w => by
    unfold Sf47.linesOf
    by_cases h : c = 10
    · rw [if_pos h, List.length_cons, List.length_cons]
      have := lines_len r []
      rw [if_pos rfl] at this
      omega
    · rw [if_neg h, List.length_cons]
      have := lines_len r (w ++ [c])
      rw [if_neg (by simp)] at this
      omega
theorem lines_row : ∀ (b w : Bytes) (x : Bytes), x ∈ Sf47.linesOf b w → x.length ≤ b.length + w.length
  | [], [], x, h => by cases h
  | [], c :: w, x, h => by
    rw [List.mem_singleton.mp (show x ∈ [c :: w] from h)]
    simp
  | c :: r, w, x, h => by
    unfold Sf47.linesOf at h
    by_cases q : c = 10
    · rw [if_pos q] at h
      rcases List.mem_cons.mp h with e | e
      · rw [e]; omega
      · have := lines_row r [] x e
        rw [List.length_cons]
        simp at this
        omega
    · rw [if_neg q] at h
      have := lines_row r (w ++ [c]) x h
      rw [List.length_append, List.length_singleton] at this
      rw [List.length_cons]
      omega
theorem prog_err {n : Nat} {b : Bytes} (hn : n ≤ 65536) {k : Nat} (h : Sf47.reads 1 ⟨[], [], 0⟩ (Sf47.linesOf b []) = .error k) : Sf47.program n b = .error k := by
  unfold Sf47.program
  rw [if_pos ⟨by omega, by omega⟩, h]
  rfl
theorem prog_bad {n : Nat} {b : Bytes} (hn : n ≤ 65536) {pls : List PLine} (h : Sf47.reads 1 ⟨[], [], 0⟩ (Sf47.linesOf b []) = .ok (prog pls 0)) {i : Nat} (hi : i < pls.length) (hb : Bad pls i) (hf : ∀ j, j < i → ¬ Bad pls j) : Sf47.program n b = .error (i + 1) := by
  unfold Sf47.program
  obtain ⟨x, r, e1, e2⟩ := told_bad (d := 0) hi hb hf
  rw [if_pos ⟨by omega, by omega⟩, h]
  show (match (prog pls 0).wrong with | [] => Except.ok (prog pls 0) | x :: r => .error (r.foldl min x)) = _
  rw [e1]
  show Except.error (r.foldl min x) = _
  rw [e2]
theorem prog_ok {n : Nat} {b : Bytes} (hn : n ≤ 65536) {pls : List PLine} (h : Sf47.reads 1 ⟨[], [], 0⟩ (Sf47.linesOf b []) = .ok (prog pls 0)) (hf : ∀ j, j < pls.length → ¬ Bad pls j) : Sf47.program n b = .ok (prog pls 0) := by
  unfold Sf47.program
  rw [if_pos ⟨by omega, by omega⟩, h]
  show (match (prog pls 0).wrong with | [] => Except.ok (prog pls 0) | x :: r => .error (r.foldl min x)) = _
  rw [told_none hf]
theorem check_is (ns : List Int) : PySf47.check ns = match Sf47.program (ns.length : Nat) (ns.map code) with
    | .ok _ => [0]
    | .error k => [-1, (k : Nat)] := by
  show Sf47Neutral.listOf (Sf47.spec (.check (ns.length : Nat) (Sf47Neutral.bytesOf ns))) = _
  rw [← bytes_code, program_nb]
  show Sf47Neutral.listOf (match Sf47.program (ns.length : Nat) (Sf47Neutral.bytesOf ns) with | .ok _ => ⟨0, none, [], [], []⟩ | .error k => ⟨-1, some k, [], [], []⟩) = _
  cases Sf47.program (ns.length : Nat) (Sf47Neutral.bytesOf ns) <;> rfl
section
variable {P : Program} {w : World} {K : PySem.W.Frag} {mg : Str → Option Value} {base : Heap} {CU CN fN CL fI : Addr} {fdI : FuncData}
/-! ### read_program -/
def spProg (K : PySem.W.Frag) (CN : Addr) : Sp := fun vs H Q E => ∃ (a : Addr) (ns : List Int), vs = [.ref a] ∧ SqL K H a (ns.map V.int) ∧ ns.length ≤ 65536 ∧ (∀ n ∈ ns, 0 ≤ n ∧ n ≤ 255) ∧
  (∀ k, Sf47.program (ns.length : Nat) (ns.map code) = .error k → Out CN E H (k : Nat)) ∧ (∀ p, Sf47.program (ns.length : Nat) (ns.map code) = .ok p → ∀ H' v, Same H H' → Q v H')
theorem sc_rpg : FnScope ["codes", "lines"] ["codes"] (defScope s_read_program) := ⟨rfl, rfl, rfl, by decide +kernel, rfl, by decide +kernel, by decide +kernel⟩
theorem ok_prog {f : Addr} {fd : FuncData} (F : Fun K "read_program" "read_program" s_read_program f fd) (NT : PySem.NapX.NapTxt K mg CN fN) (hlen : mg "len" = none) (cT : TxtC mg "TEXT_LIMIT" (.int 65536))
    (R : Df P w K mg base CX0 2 "rows_of" ["codes"] (spRows K)) (L : Df P w K mg base (L2.CX P w) 9 "read_lines" ["rows"] (spRLines K CL CN)) (G : Df P w K mg base (L2.CX P w) 2 "refuse_wrong_labels" ["lines"] (spRefuse CL CN)) :
    FnOk P w K mg base (L2.CX P w) 10 f fd ["codes"] (spProg K CN) := by
  obtain ⟨fR, fdR, mR, kR, bR, FR⟩ := R
  obtain ⟨fL, fdL, mL, kL, bL, FL⟩ := L
  obtain ⟨fG, fdG, mG, kG, bG, FG⟩ := G
  obtain ⟨uT, mT, rT⟩ := cT
  refine okC F sc_rpg (fun vs H Q E h => ?_) (fun cdv A outer s H vs Q E hr h => ?_)
  · obtain ⟨a, ns, rfl, _⟩ := h
    rfl
  · have hr1 : Room 1 _ := hr.mono (by decide)
    have hr2 : Room 2 _ := hr.mono (by decide)
    refine ⟨_, pss_cons (ps_if (pt_cmpR op_gt (pe_callB call_len_seq (by rfl) hlen PySem.boot_len (pa_cons (pv 0) pa_nil)) (pe_glob (by rfl) mT rT) (nomark _))
        (pss_one (L2.ps_raise rfl (L2.takes_of rfl rfl rfl rfl) (pmk_nap NT hr1 (pa_cons pe_int pa_nil)))) pss_nil)
      (pss_cons (ps_set (i := 1) sc_rpg.nd rfl (Or.inl rfl) (pe_callS FL hr (by rfl) mL kL bL (fun σ => L2.passAt (L2.takes_of rfl rfl rfl rfl) σ) (pa_cons (pe_call FR hr2 (by rfl) mR kR bR .nil pass0 (pa_cons (pv 0) pa_nil)) pa_nil)))
      (pss_cons (ps_expr (pe_callS FG hr2 (by rfl) mG kG bG (fun σ => L2.passAt (L2.takes_of rfl rfl rfl rfl) σ) (pa_cons (pv 1) pa_nil)))
      (pss_one (ps_ret (pv 1))))), ?_⟩
    obtain ⟨a, ns, rfl, hS, hl, hn, kF, kS⟩ := h
    refine ⟨_, rfl, a, _, rfl, .inl hS, _, _, rfl, rfl, _, rfl, ?_⟩
    rw [List.length_map]
    refine if_f (decide_eq_false (by omega)) ?_
    refine ⟨_, rfl, a, ns, rfl, hS, hl, hn, fun H1 q s1 nq eq => ?_⟩
    have hll : (ns.map code).length ≤ 65536 := by rw [List.length_map]; exact hl
    refine ⟨q, Sf47.linesOf (ns.map code) [], rfl, SqL.of eq, ?_, fun b hb => ?_, fun k e H2 d s2 nd ed => ?_, fun pls e hpl H2 p s2 np la => ?_⟩
    · have := lines_len (ns.map code) []
      rw [if_pos rfl] at this
      omega
    · have := lines_row (ns.map code) [] b hb
      simp at this
      omega
    · exact kF k (prog_err hl e) H2 d (s1.trans s2) (s1.free nd) ed
    · have hpn : pls.length ≤ 70000 := by
        have := lines_len (ns.map code) []
        rw [if_pos rfl] at this
        omega
      refine ⟨_, rfl, p, pls, rfl, la, hpn, fun i hi hb hf H3 d s3 nd ed => ?_, fun hf H3 s3 => ?_⟩
      · exact kF (i + 1) (prog_bad hl e hi hb hf) H3 d (s1.trans (s2.trans s3)) (s1.free (s2.free nd)) ed
      · exact ⟨_, rfl, kS _ (prog_ok hl e hf) H3 _ (s1.trans (s2.trans s3))⟩
/-! ### check -/
def spCheck (K : PySem.W.Frag) : Sp := fun vs H Q _ => ∃ (a : Addr) (ns : List Int), vs = [.ref a] ∧ SqL K H a (ns.map V.int) ∧ ns.length ≤ 65536 ∧ (∀ n ∈ ns, 0 ≤ n ∧ n ≤ 255) ∧ ∀ H' p, H' p = some (.lst ((PySf47.check ns).map V.int)) → Q (.ref p) H'
theorem sc_chk : FnScope ["text", "refusal"] ["text"] (defScope s_check) := ⟨rfl, rfl, rfl, by decide +kernel, rfl, by decide +kernel, by decide +kernel⟩
theorem ok_check {f : Addr} {fd : FuncData} (F : Fun K "check" "check" s_check f fd) (NT : PySem.NapX.NapTxt K mg CN fN) (G : Df P w K mg base (L2.CX P w) 10 "read_program" ["codes"] (spProg K CN)) : FnOk P w K mg base CX0 11 f fd ["text"] (spCheck K) := by
  obtain ⟨fG, fdG, mG, kG, bG, FG⟩ := G
  refine F.ok sc_chk (fun vs H Q E h => ?_) (fun cdv A outer s H vs Q E hr h => ?_)
  · obtain ⟨a, ns, rfl, _⟩ := h
    rfl
  · refine ⟨_, pss_cons (ps_try_as (i := 1) (c := .ref CN) (Wout := fun _ _ _ _ => False) rfl rfl sc_chk.nd rfl rfl ⟨by rfl, by decide, .inl NT.gC⟩ takes0
        (fun W pn xe tk po => pss_one (ps_expr (pe_callS FG hr (by rfl) mG kG bG (fun σ => L2.passAt tk σ) (pa_cons (pv 0) pa_nil))))
        (fun a oe cls d pn hz hf => pss_one (ps_ret (pe_lst (pa_cons (pe_un un_neg pe_int) (pa_cons (pe_lineOf NT hz hf (pv 1)) pa_nil))))))
      (pss_one (ps_ret (pe_lst (pa_cons pe_int pa_nil)))), ?_⟩
    obtain ⟨a, ns, rfl, hS, hl, hn, k⟩ := h
    rw [check_is] at k
    refine ⟨_, rfl, a, ns, rfl, hS, hl, hn, fun n e H1 d s1 nd ed => ?_, fun p e H1 v s1 => ?_⟩
    · rw [e] at k
      refine ⟨true, NT.te, fun _ x nx => ?_, fun z => by cases z⟩
      refine ⟨_, rfl, _, rfl, rfl, rfl, d, _, rfl, ed, by show 2 ≤ sizeLine; decide, fun p np => k _ p ?_⟩
      rw [upd_same]
      rfl
    · rw [e] at k
      exact ⟨by show 1 ≤ sizeLine; decide, fun p np => k _ p upd_same⟩
end
end Sl
set_option Elab.async false
set_option linter.all false
set_option maxRecDepth 100000
set_option maxHeartbeats 4000000
namespace Sl
open PySem PySem.Spec PyProof.Rows L2 SlM
section
variable {K : PySem.W.Frag} {h : Heap} {mg : Str → Option Value} {w : World}
theorem src_mk {name : Str} {st : Stmt} {f : Addr} {od an : Option Addr} {sl : Array (Option Value)} {oc kV dc pm cd ct : Value} (X : K.In h) (G : h.Ns mainGlobals mg) (a : PySem.W.nsIn K mainGlobals name = some (some (.ref f)))
    (l : K.lookup f = some ⟨oc, od, .func (PySem.W.fnOf name name (defArgs st) (defBody st) (defScope st) .none kV dc pm an cd ct), sl⟩) (c : PySem.W.codeIn K cd name = true) (k : PySem.W.keepIn K (.ref f) = true) : Src K mg name st :=
  ⟨f, _, PySem.W.mg_of X G a, fun_mk (st := st) l c k⟩
theorem txt_mk {x : Str} {s : Str} {t : Tok} (z : Str) (X : K.In h) (G : h.Ns mainGlobals mg) (a : PySem.W.nsIn K mainGlobals x = some (some (.str s t))) (e : s = z) : TxtC mg x (.str z) := ⟨_, PySem.W.mg_of X G a, t, by rw [e]⟩
theorem int_mk {x : Str} {n : Int} {t : Tok} (X : K.In h) (G : h.Ns mainGlobals mg) (a : PySem.W.nsIn K mainGlobals x = some (some (.int n t))) : TxtC mg x (.int n) := ⟨_, PySem.W.mg_of X G a, t, rfl⟩
theorem none_mk {x : Str} (X : K.In h) (G : h.Ns mainGlobals mg) (a : PySem.W.nsIn K mainGlobals x = some none) : mg x = none := PySem.W.mg_none_of X G a
/-! ### tables, as the text has them -/
def KT (K : PySem.W.Frag) (ks : List Str) (u : Value) : Prop := KTup K (ks.map V.str) u
theorem kt_mk {a : Addr} {ks : List Str} {its : Array Value} {n : Nat} {od : Option Addr} {sl : Array (Option Value)} (l : K.lookup a = some ⟨.type "tuple", od, .seq its n, sl⟩) (hs : its.size ≤ sizeLine) (hv : Vals (ks.map V.str) its.toList) : KT K ks (.ref a) :=
  ⟨a, rfl, _, its, n, l, rfl, rfl, hs, hv⟩
theorem tup_mk {x : Str} {u : Value} {ks : List Str} {bs : List Bytes} (X : K.In h) (G : h.Ns mainGlobals mg) (a : PySem.W.nsIn K mainGlobals x = some (some u)) (t : KT K ks u) (e : ks = bs.map S) : TupC K mg x bs := by
  refine ⟨u, PySem.W.mg_of X G a, ?_⟩
  subst e
  unfold KT at t
  rw [List.map_map] at t
  exact t
theorem pair_map {α β γ : Type} {R : α → β → Prop} {g : γ → β} : ∀ {l : List α} {m : List γ}, Paired R l (m.map g) → Paired (fun a c => R a (g c)) l m
  | [], [], _ => .nil
  | [], _ :: _, h => by cases h
  | _ :: _, [], h => by cases h
  | a :: l, c :: m, h => by
    cases h with
    | cons h1 h2 => exact .cons h1 (pair_map h2)
theorem ktab_map {β γ : Type} {d : Addr} {f : γ → β} {R : β → Value → Prop} {R' : γ → Value → Prop} {qs : List (Str × γ)} (hR : ∀ c u, R (f c) u → R' c u) (t : KTab K w d R (qs.map fun p => (p.1, f p.2))) : KTab K w d R' qs := by
  obtain ⟨es, n, h1, h2, h3⟩ := t
  refine ⟨es, n, h1, h2, Paired.mapP (pair_map h3) fun e p q => ⟨q.1, q.2.1, hR _ _ q.2.2⟩⟩
theorem ttab_mk {x : Str} {d : Addr} {ps : List (Str × List Str)} {fs : List (Bytes × List Bytes)} (X : K.In h) (G : h.Ns mainGlobals mg) (a : PySem.W.nsIn K mainGlobals x = some (some (.ref d))) (t : KTab K w d (KT K) ps) (e : ps = fs.map fun p => (S p.1, p.2.map S)) : TupTab K w mg x fs := by
  refine ⟨d, PySem.W.mg_of X G a, ktab_map (R := KT K) (f := fun ks : List Bytes => ks.map S) (fun c u q => ?_) ?_⟩
  · have q : KTup K ((c.map S).map V.str) u := q
    rw [List.map_map] at q
    exact q
  · rw [List.map_map]
    subst e
    exact t
theorem ntab_mk {x : Str} {d : Addr} {ps : List (Str × Int)} {fs : List (Bytes × Int)} (X : K.In h) (G : h.Ns mainGlobals mg) (a : PySem.W.nsIn K mainGlobals x = some (some (.ref d))) (t : KTab K w d (fun n u => L2.RelV (.int n) u) ps) (e : ps = fs.map fun p => (S p.1, p.2)) : NumTab K w mg x fs := by
  refine ⟨d, PySem.W.mg_of X G a, ?_⟩
  subst e
  obtain ⟨es, n, h1, h2, h3⟩ := t
  refine ⟨es, n, h1, h2, ?_⟩
  have key : ∀ {l : List DictEntry} {m : List (Bytes × Int)}, Paired (fun (e : DictEntry) (p : Str × Int) => (∃ t, e.key = .str p.1 t) ∧ e.hash = PyData.keyHash w.params p.1 ∧ L2.RelV (.int p.2) e.val) l (m.map fun p => (S p.1, p.2)) →
      Paired (fun (e : DictEntry) (p : Str × V) => (∃ t, e.key = .str p.1 t) ∧ e.hash = PyData.keyHash w.params p.1 ∧ L2.RelV p.2 e.val) l (m.map fun p => (S p.1, V.int p.2)) := by
    intro l
    induction l with
    | nil =>
      intro m q
      cases m with
      | nil => exact .nil
      | cons => cases q
    | cons a l ih =>
      intro m q
      cases m with
      | nil => cases q
      | cons c m =>
        cases q with
        | cons q1 q2 => exact .cons q1 (ih q2)
  exact key h3
theorem ktab_mk {β : Type} {d : Addr} {es : Array DictEntry} {n : Nat} {R : β → Value → Prop} {ps : List (Str × β)} (l : K.lookup d = some ⟨.type "dict", none, .dict es n, #[]⟩) (hd : (d == sysModules) = false)
    (p : Paired (fun (e : DictEntry) (p : Str × β) => (∃ t, e.key = .str p.1 t) ∧ e.hash = PyData.keyHash w.params p.1 ∧ R p.2 e.val) es.toList ps) : KTab K w d R ps := ⟨es, n, l, hd, p⟩
end
def numsL : List (Str × Int) := [(Str.ofString "I", 64), (Str.ofString "Q", 64), (Str.ofString "M", 256), (Str.ofString "T", 32), (Str.ofString "C", 32), (Str.ofString "W", 256), (Str.ofString "E", 32), (Str.ofString "V", 32)]
def constsL : List (Str × Int) := [(Str.ofString "FALSE", 0), (Str.ofString "TRUE", 1)]
def kindsL : List (Str × List Str) := [(Str.ofString "any", [Str.ofString "I", Str.ofString "Q", Str.ofString "M", Str.ofString "T", Str.ofString "C", Str.ofString "constant", Str.ofString "W", Str.ofString "E", Str.ofString "V", Str.ofString "number"]), (Str.ofString "bit", [Str.ofString "I", Str.ofString "Q", Str.ofString "M", Str.ofString "T", Str.ofString "C", Str.ofString "constant"]), (Str.ofString "word", [Str.ofString "W", Str.ofString "E", Str.ofString "V", Str.ofString "number"]), (Str.ofString "stored", [Str.ofString "Q", Str.ofString "M", Str.ofString "W"]), (Str.ofString "stored bit", [Str.ofString "Q", Str.ofString "M"]), (Str.ofString "timer", [Str.ofString "T"]), (Str.ofString "counter", [Str.ofString "C"]), (Str.ofString "edge", [Str.ofString "M"]), (Str.ofString "number", [Str.ofString "number"]), (Str.ofString "duration", [Str.ofString "number"]), (Str.ofString "label", [Str.ofString "label"])]
def formsL : List (Str × List Str) := [(Str.ofString "LD", [Str.ofString "any"]), (Str.ofString "LDN", [Str.ofString "bit"]), (Str.ofString "ST", [Str.ofString "stored"]), (Str.ofString "STN", [Str.ofString "stored bit"]), (Str.ofString "S", [Str.ofString "stored bit"]), (Str.ofString "R", [Str.ofString "stored bit"]), (Str.ofString "NOT", []), (Str.ofString "AND", [Str.ofString "bit"]), (Str.ofString "OR", [Str.ofString "bit"]), (Str.ofString "XOR", [Str.ofString "bit"]), (Str.ofString "ANDN", [Str.ofString "bit"]), (Str.ofString "ORN", [Str.ofString "bit"]), (Str.ofString "XORN", [Str.ofString "bit"]),
  (Str.ofString "ADD", [Str.ofString "word"]), (Str.ofString "SUB", [Str.ofString "word"]), (Str.ofString "MUL", [Str.ofString "word"]), (Str.ofString "DIV", [Str.ofString "word"]), (Str.ofString "MOD", [Str.ofString "word"]), (Str.ofString "GT", [Str.ofString "word"]), (Str.ofString "GE", [Str.ofString "word"]), (Str.ofString "EQ", [Str.ofString "word"]), (Str.ofString "NE", [Str.ofString "word"]), (Str.ofString "LE", [Str.ofString "word"]), (Str.ofString "LT", [Str.ofString "word"]), (Str.ofString ")", []), (Str.ofString "JMP", [Str.ofString "label"]), (Str.ofString "JMPC", [Str.ofString "label"]), (Str.ofString "JMPCN", [Str.ofString "label"]), (Str.ofString "RET", []), (Str.ofString "RETC", []),
  (Str.ofString "TON", [Str.ofString "timer", Str.ofString "duration"]), (Str.ofString "TOF", [Str.ofString "timer", Str.ofString "duration"]), (Str.ofString "TP", [Str.ofString "timer", Str.ofString "duration"]), (Str.ofString "CTU", [Str.ofString "counter", Str.ofString "number"]), (Str.ofString "RC", [Str.ofString "counter"]), (Str.ofString "UP", [Str.ofString "edge"]), (Str.ofString "DOWN", [Str.ofString "edge"])]
def putL : List Str := [Str.ofString "AND", Str.ofString "OR", Str.ofString "XOR", Str.ofString "ANDN", Str.ofString "ORN", Str.ofString "XORN", Str.ofString "ADD", Str.ofString "SUB", Str.ofString "MUL", Str.ofString "DIV", Str.ofString "MOD", Str.ofString "GT", Str.ofString "GE", Str.ofString "EQ", Str.ofString "NE", Str.ofString "LE", Str.ofString "LT"]
def jumpL : List Str := [Str.ofString "JMP", Str.ofString "JMPC", Str.ofString "JMPCN"]
def parL : List Str := [Str.ofString "JMP", Str.ofString "JMPC", Str.ofString "JMPCN", Str.ofString "RET", Str.ofString "RETC", Str.ofString "ST", Str.ofString "STN", Str.ofString "S", Str.ofString "R"]
theorem nums_is : numsL = sizeT.map fun p => (S p.1, p.2) := by decide +kernel
theorem consts_is : constsL = constT.map fun p => (S p.1, p.2) := by decide +kernel
theorem kinds_is : kindsL = kinds.map fun p => (S p.1, p.2.map S) := by decide +kernel
theorem forms_is : formsL = forms.map fun p => (S p.1, p.2.map S) := by decide +kernel
theorem put_is : putL = putOff.map S := by decide +kernel
theorem jump_is : jumpL = jumpN.map S := by decide +kernel
theorem par_is : parL = noPar.map S := by decide +kernel
end Sl
set_option Elab.async false
set_option linter.all false
set_option maxRecDepth 100000
set_option maxHeartbeats 4000000
namespace Sl
open PySem PySem.Spec PyProof.Rows L2 SlM
/-- the defs of the text -/
structure Srcs (K : PySem.W.Frag) (mg : Str → Option Value) : Prop where
  c_rows_of : Src K mg "rows_of" s_rows_of
  c_text_of : Src K mg "text_of" s_text_of
  c_signs_of : Src K mg "signs_of" s_signs_of
  c_end_of_sign : Src K mg "end_of_sign" s_end_of_sign
  c_end_of_number : Src K mg "end_of_number" s_end_of_number
  c_end_of_run : Src K mg "end_of_run" s_end_of_run
  c_sign_of : Src K mg "sign_of" s_sign_of
  c_word_of : Src K mg "word_of" s_word_of
  c_number_of : Src K mg "number_of" s_number_of
  c_is_word : Src K mg "is_word" s_is_word
  c_read_operand : Src K mg "read_operand" s_read_operand
  c_label_of : Src K mg "label_of" s_label_of
  c_value_of : Src K mg "value_of" s_value_of
  c_named_value : Src K mg "named_value" s_named_value
  c_is_plain_number : Src K mg "is_plain_number" s_is_plain_number
  c_read_line : Src K mg "read_line" s_read_line
  c_read_label : Src K mg "read_label" s_read_label
  c_read_instruction : Src K mg "read_instruction" s_read_instruction
  c_read_put_off : Src K mg "read_put_off" s_read_put_off
  c_read_operands : Src K mg "read_operands" s_read_operands
  c_read_program : Src K mg "read_program" s_read_program
  c_read_lines : Src K mg "read_lines" s_read_lines
  c_depth_behind : Src K mg "depth_behind" s_depth_behind
  c_instructions_with : Src K mg "instructions_with" s_instructions_with
  c_refuse_wrong_labels : Src K mg "refuse_wrong_labels" s_refuse_wrong_labels
  c_labels_of : Src K mg "labels_of" s_labels_of
  c_check : Src K mg "check" s_check
/-- what else the top has -/
structure Tops (K : PySem.W.Frag) (w : World) (mg : Str → Option Value) : Prop where
  n_len : mg "len" = none
  n_int : mg "int" = none
  n_isi : mg "isinstance" = none
  n_str : mg "str" = none
  n_ord : mg "ord" = none
  n_zip : mg "zip" = none
  n_enum : mg "enumerate" = none
  cL : TxtC mg "LETTERS" (.str letters)
  cD : TxtC mg "DIGITS" (.str digits)
  cM : TxtC mg "MARKS" (.str marks)
  cB : TxtC mg "BLANKS" (.str blanks)
  cO : TxtC mg "OTHERS" (.str others)
  cU : TxtC mg "UNKNOWN" (.str (Str.ofString "?"))
  iR : TxtC mg "ROW_LIMIT" (.int 255)
  iW : TxtC mg "WORD_LIMIT" (.int 15)
  iB : TxtC mg "NUMBER_BOUND" (.int 2147483648)
  iT : TxtC mg "TEXT_LIMIT" (.int 65536)
  iD : TxtC mg "DEPTH_LIMIT" (.int 8)
  iI : TxtC mg "INSTRUCTION_LIMIT" (.int 4096)
  tC : NumTab K w mg "CONSTANTS" constT
  tS : NumTab K w mg "SIZES" sizeT
  tK : TupTab K w mg "KINDS" kinds
  tF : TupTab K w mg "FORMS" forms
  pO : TupC K mg "MAY_BE_PUT_OFF" putOff
  pJ : TupC K mg "JUMPS" jumpN
  pN : TupC K mg "NOT_IN_PARENTHESES" noPar
/-- an error of the class at S is what «except S» names -/
theorem exm_self {K : PySem.W.Frag} {S : Addr} (h1 : PySem.W.subIn K (.ref S) (.type "BaseException") = some true) (h2 : PySem.W.isClsIn K S = true) (h3 : PySem.W.typeIn K (.ref S) = some (.type "type")) (h4 : PySem.W.subIn K (.ref S) (.ref S) = some true) :
    PySem.W.exmOne K (.ref S) (.ref S) = some true := by
  have e1 : (PySem.W.subIn K (.ref S) (.type "BaseException") == some true) = true := by rw [h1] <;> rfl
  have e2 : ((PySem.W.clsIn K S).isSome && PySem.W.typeIn K (.ref S) == some (.type "type")) = true := by
    have h2' : (PySem.W.clsIn K S).isSome = true := h2
    rw [h2', h3] <;> rfl
  show (if (PySem.W.subIn K (.ref S) (.type "BaseException") == some true) = true then (if ((PySem.W.clsIn K S).isSome && PySem.W.typeIn K (.ref S) == some (.type "type")) = true then PySem.W.subIn K (.ref S) (.ref S) else none) else none) = some true
  rw [if_pos e1, if_pos e2]
  exact h4
section
variable {K : PySem.W.Frag} {h : Heap} {mg : Str → Option Value} {w : World}
theorem un_mk {C : Addr} (X : K.In h) (G : h.Ns mainGlobals mg) (a : PySem.W.nsIn K mainGlobals "Unreadable" = some (some (.ref C))) (xF : PySem.W.excIn K C [.type "Exception", .type "BaseException", .type "object"] "Exception.__new__" = true) (kF : PySem.W.keepIn K (.ref C) = true)
    (bF : PySem.W.subIn K (.ref C) (.type "BaseException") = some true) (tF : PySem.W.typeIn K (.ref C) = some (.type "type")) (iF : PySem.W.isClsIn K C = true) (sF : PySem.W.subIn K (.ref C) (.ref C) = some true) : ∃ C, UnTxt K mg C :=
  ⟨C, PySem.W.mg_of X G a, xF, kF, bF, tF, exm_self bF iF tF sF⟩
theorem nap_mk {C fI : Addr} {nm q : Str} {N : Addr} {bs : List Value} {sn : List Str} {sub : List Value} {ab : Bool} {col : Option Bool} {dd : Option Addr} {k0 k1 k2 k3 k5 : Option Value} {oc doc pm cdv ct : Value} {od an : Option Addr} {osl : Array (Option Value)} {p1 p2 q1 q2 q3 q4 : Pos}
    (X : K.In h) (G : h.Ns mainGlobals mg) (a : PySem.W.nsIn K mainGlobals "NotAProgram" = some (some (.ref C))) (c : K.lookup C = some (excClassObj nm q C N bs PySem.NapX.exTail true sn sub ab col dd k0 k1 k2 k3 k5 "Exception.__new__"))
    (sa : PySem.W.findIn K (.ref C) "__setattr__" = some (some (.builtin "object.__setattr__"))) (ga : PySem.W.findIn K (.ref C) "__getattribute__" = some (some (.builtin "BaseException.__getattribute__"))) (gg : PySem.W.findIn K (.ref C) "__getattr__" = some none) (no : PySem.W.findIn K (.ref C) "line" = some none)
    (i : PySem.W.findIn K (.ref C) "__init__" = some (some (.ref fI))) (t : PySem.W.typeIn K (.ref fI) = some (.type "function")) (k : PySem.W.keepIn K (.ref C) = true) (b : PySem.W.subIn K (.ref C) (.type "BaseException") = some true) (y : PySem.W.typeIn K (.ref C) = some (.type "type")) (hd : PySem.W.hasDictIn K C = true)
    (ic : PySem.W.isClsIn K C = true) (s : PySem.W.subIn K (.ref C) (.ref C) = some true) (l : K.lookup fI = some ⟨oc, od, .func (PySem.W.fnOf "__init__" "NotAProgram.__init__" (PySem.NapX.iA p1 p2) (PySem.NapX.iB q1 q2 q3 q4) PySem.NapX.iS .none .none doc pm an cdv ct), osl⟩) (cd : PySem.W.codeIn K cdv "NotAProgram.__init__" = true) :
    ∃ C f, PySem.NapX.NapTxt K mg C f := ⟨C, fI, PySem.W.mg_of X G a, ⟨_, _, _, _, _, _, _, _, _, _, _, _, _, _, c⟩, sa, ga, gg, no, i, t, k, b, y, hd, exm_self b ic y s, ⟨_, _, _, _, _, _, _, _, _, _, _, _, _, _, l, cd⟩⟩
theorem ln_mk {C f : Addr} {od an : Option Addr} {sl : Array (Option Value)} {oc kV dc pm cd ct : Value} (X : K.In h) (G : h.Ns mainGlobals mg) (a : PySem.W.nsIn K mainGlobals "Line" = some (some (.ref C)))
    (a1 : PySem.W.findIn K (.ref C) "__init__" = some (some (.ref f))) (i1 : PySem.W.isFn K (.ref f) = true) (l1 : K.lookup f = some ⟨oc, od, .func (PySem.W.fnOf "__init__" "Line.__init__" (defArgs s_line_init) (defBody s_line_init) (defScope s_line_init) .none kV dc pm an cd ct), sl⟩) (c1 : PySem.W.codeIn K cd "Line.__init__" = true) (k1 : PySem.W.keepIn K (.ref f) = true)
    (pg : PySem.W.plainGet K C Str.empty = true) (hd : PySem.W.hasDictIn K C = true) (po : PySem.W.plainOver K C = true) (sa : PySem.W.findIn K (.ref C) "__setattr__" = some (some (.builtin "object.__setattr__"))) (mk : PySem.W.makesIn K C = true) (kc : PySem.W.keepIn K (.ref C) = true)
    (nL : PySem.W.findIn K (.ref C) "label" = some none) (nN : PySem.W.findIn K (.ref C) "name" = some none) (nO : PySem.W.findIn K (.ref C) "opens" = some none) (nP : PySem.W.findIn K (.ref C) "operands" = some none) : ∃ C f fd, LnTxt K mg C f fd :=
  ⟨C, f, _, PySem.W.mg_of X G a, ⟨pg, hd, po, sa⟩, nL, nN, nO, nP, ⟨mk, a1, i1, kc⟩, fun_mk (st := s_line_init) l1 c1 k1⟩
end
theorem all_mk {P : Program} {w : World} {K : PySem.W.Frag} {mg : Str → Option Value} {fa : Addr} (hfa : mg "check" = some (.ref fa)) (U : ∃ C, UnTxt K mg C) (N : ∃ C f, PySem.NapX.NapTxt K mg C f) (L : ∃ C f fd, LnTxt K mg C f fd) (T : Tops K w mg) (S : Srcs K mg) :
    ∃ fd : FuncData, (∀ (s : Shared) (us : List Value), us.length = (["text"] : List Str).length → BindsTo s fd ⟨us, []⟩ ((["text"] : List Str).zip us)) ∧ ∀ base : Heap, K.In base → base.Ns mainGlobals mg → FnOk P w K mg base CX0 11 fa fd ["text"] (spCheck K) := by
  obtain ⟨CU, U⟩ := U
  obtain ⟨CN, fN, N⟩ := N
  obtain ⟨CL, fI, fdI, L⟩ := L
  obtain ⟨fc, fdc, mc, Fc⟩ := S.c_check
  have e := hfa.symm.trans mc
  cases e
  have key : ∀ base : Heap, FnOk P w K mg base CX0 11 fa fdc ["text"] (spCheck K) := fun base => by
    have d_run : Df P w K mg base CX0 1 "end_of_run" ["row", "start", "members"] spRun := S.c_end_of_run.df (fun _ _ _ _ _ _ us hl => match us, hl with | [_, _, _], _ => rfl) fun f fd F => ok_run F T.n_len
    have d_num : Df P w K mg base (L2N.CX P w) 2 "end_of_number" ["row", "start"] (spNum CU) := S.c_end_of_number.df (fun _ _ _ _ _ _ us hl => match us, hl with | [_, _], _ => rfl) fun f fd F => ok_num F U T.cD d_run
    have d_send : Df P w K mg base (L2N.CX P w) 3 "end_of_sign" ["row", "start"] (spSignEnd CU) := S.c_end_of_sign.df (fun _ _ _ _ _ _ us hl => match us, hl with | [_, _], _ => rfl) fun f fd F => ok_send F T.cL T.cD T.cM d_run d_num
    have d_word : Df P w K mg base (L2N.CX P w) 1 "word_of" ["text"] (spWordOf CU) := S.c_word_of.df (fun _ _ _ _ _ _ us hl => match us, hl with | [_], _ => rfl) fun f fd F => ok_wordOf F U T.n_len T.iW
    have d_nof : Df P w K mg base (L2N.CX P w) 1 "number_of" ["text"] (spNumberOf CU) := S.c_number_of.df (fun _ _ _ _ _ _ us hl => match us, hl with | [_], _ => rfl) fun f fd F => ok_numberOf F U T.n_int T.iB
    have d_sof : Df P w K mg base (L2N.CX P w) 2 "sign_of" ["text"] (spSignOf CU) := S.c_sign_of.df (fun _ _ _ _ _ _ us hl => match us, hl with | [_], _ => rfl) fun f fd F => ok_signOf F T.cL T.cM d_word d_nof
    have d_isw : Df P w K mg base CX0 1 "is_word" ["sign"] spIsWord := S.c_is_word.df (fun _ _ _ _ _ _ us hl => match us, hl with | [_], _ => rfl) fun f fd F => ok_isWord F T.cL T.n_isi T.n_str
    have d_pln : Df P w K mg base CX0 1 "is_plain_number" ["digits"] spPlain := S.c_is_plain_number.df (fun _ _ _ _ _ _ us hl => match us, hl with | [_], _ => rfl) fun f fd F => ok_plain F
    have d_sgs : Df P w K mg base (L2N.CX P w) 4 "signs_of" ["row"] (spSigns CU) := S.c_signs_of.df (fun _ _ _ _ _ _ us hl => match us, hl with | [_], _ => rfl) fun f fd F => ok_signs F U T.n_len T.iR T.cB d_send d_sof
    have d_txt : Df P w K mg base CX0 1 "text_of" ["codes"] (spText K) := S.c_text_of.df (fun _ _ _ _ _ _ us hl => match us, hl with | [_], _ => rfl) fun f fd F => ok_text F T.cL T.cD T.cM T.cB T.cO T.cU T.n_ord
    have d_row : Df P w K mg base CX0 2 "rows_of" ["codes"] (spRows K) := S.c_rows_of.df (fun _ _ _ _ _ _ us hl => match us, hl with | [_], _ => rfl) fun f fd F => ok_rows F d_txt
    have d_nam : Df P w K mg base CX0 2 "named_value" ["word"] spNamed := S.c_named_value.df (fun _ _ _ _ _ _ us hl => match us, hl with | [_], _ => rfl) fun f fd F => ok_named F T.tC T.tS T.n_int d_pln
    have d_val : Df P w K mg base (L2N.CX P w) 3 "value_of" ["sign"] (spValue CU) := S.c_value_of.df (fun _ _ _ _ _ _ us hl => match us, hl with | [_], _ => rfl) fun f fd F => ok_value F U T.n_isi T.n_int d_nam
    have d_lbo : Df P w K mg base (L2N.CX P w) 2 "label_of" ["sign"] (spLabelOf CU) := S.c_label_of.df (fun _ _ _ _ _ _ us hl => match us, hl with | [_], _ => rfl) fun f fd F => ok_labelOf F U d_isw
    have d_opd : Df P w K mg base (L2N.CX P w) 4 "read_operand" ["sign", "form"] (spOpd CU) := S.c_read_operand.df (fun _ _ _ _ _ _ us hl => match us, hl with | [_, _], _ => rfl) fun f fd F => ok_opd F U T.tK d_lbo d_val
    have d_lab : Df P w K mg base (L2N.CX P w) 3 "read_label" ["sign"] (spLabel CU) := S.c_read_label.df (fun _ _ _ _ _ _ us hl => match us, hl with | [_], _ => rfl) fun f fd F => ok_label F U d_isw d_nam
    have d_ops : Df P w K mg base (L2N.CX P w) 5 "read_operands" ["signs", "forms"] (spOps K CU) := S.c_read_operands.df (fun _ _ _ _ _ _ us hl => match us, hl with | [_, _], _ => rfl) fun f fd F => ok_ops F U T.n_len T.n_zip d_opd
    have d_put : Df P w K mg base (L2N.CX P w) 6 "read_put_off" ["name", "signs"] (spPut K CU) := S.c_read_put_off.df (fun _ _ _ _ _ _ us hl => match us, hl with | [_, _], _ => rfl) fun f fd F => ok_put F U T.pO d_ops
    have d_ins : Df P w K mg base (L2N.CX P w) 7 "read_instruction" ["label", "signs"] (spIns K CU CL) := S.c_read_instruction.df (fun _ _ _ _ _ _ us hl => match us, hl with | [_, _], _ => rfl) fun f fd F => ok_ins F U L T.n_len T.tF d_ops d_put
    have d_lin : Df P w K mg base (L2N.CX P w) 8 "read_line" ["row"] (spLine CU CL) := S.c_read_line.df (fun _ _ _ _ _ _ us hl => match us, hl with | [_], _ => rfl) fun f fd F => ok_line F T.n_len d_sgs d_lab d_ins
    have d_dep : Df P w K mg base (L2N.CX P w) 1 "depth_behind" ["line", "depth"] (spDepth CU CL) := S.c_depth_behind.df (fun _ _ _ _ _ _ us hl => match us, hl with | [_, _], _ => rfl) fun f fd F => ok_depth F U L T.iD T.pN
    have d_cnt : Df P w K mg base (L2N.CX P w) 1 "instructions_with" ["line", "instructions"] (spCount CU CL) := S.c_instructions_with.df (fun _ _ _ _ _ _ us hl => match us, hl with | [_, _], _ => rfl) fun f fd F => ok_count F U L T.iI
    have d_lbs : Df P w K mg base CX0 1 "labels_of" ["lines"] (spLabels CL) := S.c_labels_of.df (fun _ _ _ _ _ _ us hl => match us, hl with | [_], _ => rfl) fun f fd F => ok_labels F L
    have d_ref : Df P w K mg base (L2.CX P w) 2 "refuse_wrong_labels" ["lines"] (spRefuse CL CN) := S.c_refuse_wrong_labels.df (fun _ _ _ _ _ _ us hl => match us, hl with | [_], _ => rfl) fun f fd F => ok_refuse F N L T.n_enum T.pJ d_lbs
    have d_rls : Df P w K mg base (L2.CX P w) 9 "read_lines" ["rows"] (spRLines K CL CN) := S.c_read_lines.df (fun _ _ _ _ _ _ us hl => match us, hl with | [_], _ => rfl) fun f fd F => ok_rlines F U N T.n_len d_lin d_dep d_cnt
    have d_rpg : Df P w K mg base (L2.CX P w) 10 "read_program" ["codes"] (spProg K CN) := S.c_read_program.df (fun _ _ _ _ _ _ us hl => match us, hl with | [_], _ => rfl) fun f fd F => ok_prog F N T.n_len T.iT d_row d_rls d_ref
    exact ok_check Fc N d_rpg
  obtain ⟨oc, od, kV, doc, pm, an, cdv, ct, osl, hfd, lk, hcd⟩ := Fc.ex
  subst hfd
  exact ⟨_, fun s us hu => match us, hu with | [_], _ => .of_eq rfl, fun base _ _ => key base⟩
end Sl
set_option Elab.async false
set_option linter.all false
namespace Sl
theorem in_byte {n : Int} (h : PySem.W.Codec.inInt 0 255 n = true) : 0 ≤ n ∧ n ≤ 255 := by
  unfold PySem.W.Codec.inInt at h
  simpa using h
end Sl
open PySem PySem.W PyProof.Rows
set_option maxRecDepth 100000 in
set_option maxHeartbeats 8000000 in
theorem PySem.Challenge.cw_scanlist_s01_check_holds : PySem.Challenge.rw_scanlist_s01_check.Holds := by
  w_on; k_headS; (case hw => exact ⟨[.list []], by decide +kernel, by decide +kernel⟩)
  k_fillS
  refine L2.walk_specK (r := PySem.Challenge.rw_scanlist_s01_check) (k := 11) (CX := L2.CX0) (ps := ["text"]) (sp := Sl.spCheck) (by decide +kernel) rfl rfl ⟨rfl, by decide, by decide⟩ (fun w h Y => PySem.W.kIn_of Y) ?F ?S (fun _ _ _ _ z => z)
  case F =>
    intro w mg fa h Y KX G hmg
    refine' Sl.all_mk hmg ?z_U ?z_N ?z_L ?z_T ?z_S
    case z_U =>
      refine' Sl.un_mk KX G ?z_a ?z_x ?z_k ?z_b ?z_t ?z_i ?z_s
      (case z_a => k_is); (case z_x => k_exc); (case z_k => k_is); (case z_b => k_is); (case z_t => k_is); (case z_i => k_is); (case z_s => first | rfl | k_is)
    case z_N =>
      refine' Sl.nap_mk KX G ?z_a ?z_c ?z_sa ?z_ga ?z_gg ?z_no ?z_i ?z_t ?z_k ?z_b ?z_y ?z_h ?z_ic ?z_s ?z_l ?z_cd
      (case z_a => k_is); (case z_c => k_is); (case z_sa => k_is); (case z_ga => k_is); (case z_gg => k_is); (case z_no => k_is); (case z_i => k_is); (case z_t => k_is); (case z_k => k_is); (case z_b => k_is); (case z_y => k_is); (case z_h => k_is); (case z_ic => k_is); (case z_s => first | rfl | k_is); (case z_l => k_is); (case z_cd => k_is)
    case z_L =>
      refine' Sl.ln_mk KX G ?z_a ?z_a1 ?z_i1 ?z_l1 ?z_c1 ?z_k1 ?z_pg ?z_hd ?z_po ?z_sa ?z_mk ?z_kc ?z_nL ?z_nN ?z_nO ?z_nP
      (case z_a => k_is); (case z_a1 => k_is); (case z_i1 => k_is); (case z_l1 => k_is); (case z_c1 => k_is); (case z_k1 => k_is); (case z_pg => k_is); (case z_hd => k_is); (case z_po => k_is); (case z_sa => k_is); (case z_mk => k_is); (case z_kc => k_is); (case z_nL => k_is); (case z_nN => k_is); (case z_nO => k_is); (case z_nP => k_is)
    case z_T =>
      refine' ⟨?z_n1, ?z_n2, ?z_n3, ?z_n4, ?z_n5, ?z_n6, ?z_n7, ?z_t1, ?z_t2, ?z_t3, ?z_t4, ?z_t5, ?z_t6, ?z_i1, ?z_i2, ?z_i3, ?z_i4, ?z_i5, ?z_i6, ?z_d1, ?z_d2, ?z_d3, ?z_d4, ?z_p1, ?z_p2, ?z_p3⟩
      (case z_n1 => refine' Sl.none_mk KX G ?z_a; (case z_a => k_is))
      (case z_n2 => refine' Sl.none_mk KX G ?z_a; (case z_a => k_is))
      (case z_n3 => refine' Sl.none_mk KX G ?z_a; (case z_a => k_is))
      (case z_n4 => refine' Sl.none_mk KX G ?z_a; (case z_a => k_is))
      (case z_n5 => refine' Sl.none_mk KX G ?z_a; (case z_a => k_is))
      (case z_n6 => refine' Sl.none_mk KX G ?z_a; (case z_a => k_is))
      (case z_n7 => refine' Sl.none_mk KX G ?z_a; (case z_a => k_is))
      (case z_t1 => refine' Sl.txt_mk _ KX G ?z_a ?z_e; (case z_a => k_is); (case z_e => rfl))
      (case z_t2 => refine' Sl.txt_mk _ KX G ?z_a ?z_e; (case z_a => k_is); (case z_e => rfl))
      (case z_t3 => refine' Sl.txt_mk _ KX G ?z_a ?z_e; (case z_a => k_is); (case z_e => rfl))
      (case z_t4 => refine' Sl.txt_mk _ KX G ?z_a ?z_e; (case z_a => k_is); (case z_e => rfl))
      (case z_t5 => refine' Sl.txt_mk _ KX G ?z_a ?z_e; (case z_a => k_is); (case z_e => rfl))
      (case z_t6 => refine' Sl.txt_mk _ KX G ?z_a ?z_e; (case z_a => k_is); (case z_e => rfl))
      (case z_i1 => refine' Sl.int_mk KX G ?z_a; (case z_a => k_is))
      (case z_i2 => refine' Sl.int_mk KX G ?z_a; (case z_a => k_is))
      (case z_i3 => refine' Sl.int_mk KX G ?z_a; (case z_a => k_is))
      (case z_i4 => refine' Sl.int_mk KX G ?z_a; (case z_a => k_is))
      (case z_i5 => refine' Sl.int_mk KX G ?z_a; (case z_a => k_is))
      (case z_i6 => refine' Sl.int_mk KX G ?z_a; (case z_a => k_is))
      case z_d1 =>
        refine' Sl.ntab_mk (ps := Sl.constsL) KX G ?z_a (Sl.ktab_mk ?z_l ?z_d ?z_p) ?z_e
        (case z_a => k_is); (case z_l => k_is); (case z_d => rfl); (case z_e => exact Sl.consts_is)
        case z_p =>
          unfold Sl.constsL
          repeat (refine' .cons ⟨⟨_, rfl⟩, rfl, _, rfl⟩ ?_)
          exact .nil
      case z_d2 =>
        refine' Sl.ntab_mk (ps := Sl.numsL) KX G ?z_a (Sl.ktab_mk ?z_l ?z_d ?z_p) ?z_e
        (case z_a => k_is); (case z_l => k_is); (case z_d => rfl); (case z_e => exact Sl.nums_is)
        case z_p =>
          unfold Sl.numsL
          repeat (refine' .cons ⟨⟨_, rfl⟩, rfl, _, rfl⟩ ?_)
          exact .nil
      case z_d3 =>
        refine' Sl.ttab_mk (ps := Sl.kindsL) KX G ?z_a (Sl.ktab_mk ?z_l ?z_d ?z_p) ?z_e
        (case z_a => k_is); (case z_l => k_is); (case z_d => rfl); (case z_e => exact Sl.kinds_is)
        case z_p =>
          unfold Sl.kindsL
          repeat (refine' .cons ⟨⟨_, rfl⟩, rfl, Sl.kt_mk ?z_l ?z_s ?z_v⟩ ?_; (case z_l => k_is); (case z_s => decide); (case z_v => repeat (first | exact .nil | refine' .cons ⟨_, rfl⟩ ?_)))
          exact .nil
      case z_d4 =>
        refine' Sl.ttab_mk (ps := Sl.formsL) KX G ?z_a (Sl.ktab_mk ?z_l ?z_d ?z_p) ?z_e
        (case z_a => k_is); (case z_l => k_is); (case z_d => rfl); (case z_e => exact Sl.forms_is)
        case z_p =>
          unfold Sl.formsL
          repeat (refine' .cons ⟨⟨_, rfl⟩, rfl, Sl.kt_mk ?z_l ?z_s ?z_v⟩ ?_; (case z_l => k_is); (case z_s => decide); (case z_v => repeat (first | exact .nil | refine' .cons ⟨_, rfl⟩ ?_)))
          exact .nil
      case z_p1 =>
        refine' Sl.tup_mk (ks := Sl.putL) KX G ?z_a (Sl.kt_mk ?z_l ?z_s ?z_v) ?z_e
        (case z_a => k_is); (case z_l => k_is); (case z_s => decide); (case z_e => exact Sl.put_is)
        case z_v =>
          unfold Sl.putL
          repeat (first | exact .nil | refine' .cons ⟨_, rfl⟩ ?_)
      case z_p2 =>
        refine' Sl.tup_mk (ks := Sl.jumpL) KX G ?z_a (Sl.kt_mk ?z_l ?z_s ?z_v) ?z_e
        (case z_a => k_is); (case z_l => k_is); (case z_s => decide); (case z_e => exact Sl.jump_is)
        case z_v =>
          unfold Sl.jumpL
          repeat (first | exact .nil | refine' .cons ⟨_, rfl⟩ ?_)
      case z_p3 =>
        refine' Sl.tup_mk (ks := Sl.parL) KX G ?z_a (Sl.kt_mk ?z_l ?z_s ?z_v) ?z_e
        (case z_a => k_is); (case z_l => k_is); (case z_s => decide); (case z_e => exact Sl.par_is)
        case z_v =>
          unfold Sl.parL
          repeat (first | exact .nil | refine' .cons ⟨_, rfl⟩ ?_)
    case z_S =>
      refine' ⟨?z_s0, ?z_s1, ?z_s2, ?z_s3, ?z_s4, ?z_s5, ?z_s6, ?z_s7, ?z_s8, ?z_s9, ?z_s10, ?z_s11, ?z_s12, ?z_s13, ?z_s14, ?z_s15, ?z_s16, ?z_s17, ?z_s18, ?z_s19, ?z_s20, ?z_s21, ?z_s22, ?z_s23, ?z_s24, ?z_s25, ?z_s26⟩
      (case z_s0 => refine' Sl.src_mk KX G ?z_a ?z_l ?z_c ?z_k; (case z_a => k_is); (case z_l => k_is); (case z_c => k_is); (case z_k => k_is))
      (case z_s1 => refine' Sl.src_mk KX G ?z_a ?z_l ?z_c ?z_k; (case z_a => k_is); (case z_l => k_is); (case z_c => k_is); (case z_k => k_is))
      (case z_s2 => refine' Sl.src_mk KX G ?z_a ?z_l ?z_c ?z_k; (case z_a => k_is); (case z_l => k_is); (case z_c => k_is); (case z_k => k_is))
      (case z_s3 => refine' Sl.src_mk KX G ?z_a ?z_l ?z_c ?z_k; (case z_a => k_is); (case z_l => k_is); (case z_c => k_is); (case z_k => k_is))
      (case z_s4 => refine' Sl.src_mk KX G ?z_a ?z_l ?z_c ?z_k; (case z_a => k_is); (case z_l => k_is); (case z_c => k_is); (case z_k => k_is))
      (case z_s5 => refine' Sl.src_mk KX G ?z_a ?z_l ?z_c ?z_k; (case z_a => k_is); (case z_l => k_is); (case z_c => k_is); (case z_k => k_is))
      (case z_s6 => refine' Sl.src_mk KX G ?z_a ?z_l ?z_c ?z_k; (case z_a => k_is); (case z_l => k_is); (case z_c => k_is); (case z_k => k_is))
      (case z_s7 => refine' Sl.src_mk KX G ?z_a ?z_l ?z_c ?z_k; (case z_a => k_is); (case z_l => k_is); (case z_c => k_is); (case z_k => k_is))
      (case z_s8 => refine' Sl.src_mk KX G ?z_a ?z_l ?z_c ?z_k; (case z_a => k_is); (case z_l => k_is); (case z_c => k_is); (case z_k => k_is))
      (case z_s9 => refine' Sl.src_mk KX G ?z_a ?z_l ?z_c ?z_k; (case z_a => k_is); (case z_l => k_is); (case z_c => k_is); (case z_k => k_is))
      (case z_s10 => refine' Sl.src_mk KX G ?z_a ?z_l ?z_c ?z_k; (case z_a => k_is); (case z_l => k_is); (case z_c => k_is); (case z_k => k_is))
      (case z_s11 => refine' Sl.src_mk KX G ?z_a ?z_l ?z_c ?z_k; (case z_a => k_is); (case z_l => k_is); (case z_c => k_is); (case z_k => k_is))
      (case z_s12 => refine' Sl.src_mk KX G ?z_a ?z_l ?z_c ?z_k; (case z_a => k_is); (case z_l => k_is); (case z_c => k_is); (case z_k => k_is))
      (case z_s13 => refine' Sl.src_mk KX G ?z_a ?z_l ?z_c ?z_k; (case z_a => k_is); (case z_l => k_is); (case z_c => k_is); (case z_k => k_is))
      (case z_s14 => refine' Sl.src_mk KX G ?z_a ?z_l ?z_c ?z_k; (case z_a => k_is); (case z_l => k_is); (case z_c => k_is); (case z_k => k_is))
      (case z_s15 => refine' Sl.src_mk KX G ?z_a ?z_l ?z_c ?z_k; (case z_a => k_is); (case z_l => k_is); (case z_c => k_is); (case z_k => k_is))
      (case z_s16 => refine' Sl.src_mk KX G ?z_a ?z_l ?z_c ?z_k; (case z_a => k_is); (case z_l => k_is); (case z_c => k_is); (case z_k => k_is))
      (case z_s17 => refine' Sl.src_mk KX G ?z_a ?z_l ?z_c ?z_k; (case z_a => k_is); (case z_l => k_is); (case z_c => k_is); (case z_k => k_is))
      (case z_s18 => refine' Sl.src_mk KX G ?z_a ?z_l ?z_c ?z_k; (case z_a => k_is); (case z_l => k_is); (case z_c => k_is); (case z_k => k_is))
      (case z_s19 => refine' Sl.src_mk KX G ?z_a ?z_l ?z_c ?z_k; (case z_a => k_is); (case z_l => k_is); (case z_c => k_is); (case z_k => k_is))
      (case z_s20 => refine' Sl.src_mk KX G ?z_a ?z_l ?z_c ?z_k; (case z_a => k_is); (case z_l => k_is); (case z_c => k_is); (case z_k => k_is))
      (case z_s21 => refine' Sl.src_mk KX G ?z_a ?z_l ?z_c ?z_k; (case z_a => k_is); (case z_l => k_is); (case z_c => k_is); (case z_k => k_is))
      (case z_s22 => refine' Sl.src_mk KX G ?z_a ?z_l ?z_c ?z_k; (case z_a => k_is); (case z_l => k_is); (case z_c => k_is); (case z_k => k_is))
      (case z_s23 => refine' Sl.src_mk KX G ?z_a ?z_l ?z_c ?z_k; (case z_a => k_is); (case z_l => k_is); (case z_c => k_is); (case z_k => k_is))
      (case z_s24 => refine' Sl.src_mk KX G ?z_a ?z_l ?z_c ?z_k; (case z_a => k_is); (case z_l => k_is); (case z_c => k_is); (case z_k => k_is))
      (case z_s25 => refine' Sl.src_mk KX G ?z_a ?z_l ?z_c ?z_k; (case z_a => k_is); (case z_l => k_is); (case z_c => k_is); (case z_k => k_is))
      (case z_s26 => refine' Sl.src_mk KX G ?z_a ?z_l ?z_c ?z_k; (case z_a => k_is); (case z_l => k_is); (case z_c => k_is); (case z_k => k_is))
  case S =>
    intro K H xs a hO hwi hask hx
    cases hx with
    | cons h1 h2 =>
      cases h2
      cases h1 with
      | lst hs ha =>
        have e := L2.ints_dw a.1 _ ha
        subst e
        have q : ((Codec.inLen 0 65536 a.1 && a.1.all (Codec.inInt 0 255)) && true) = true := hwi
        rw [Bool.and_eq_true, Bool.and_eq_true] at q
        refine ⟨_, a.1, rfl, hs, (Codec.inNat_iff.mp q.1.1).2, fun n hn => ?_, fun H' p hp => .lst (L2.SqL.of hp) (L2.dw_ints _)⟩
        exact Sl.in_byte (List.all_eq_true.mp q.1.2 n hn)
