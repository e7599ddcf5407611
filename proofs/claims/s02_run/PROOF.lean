import PyProof.Rows.All
import PySf47
import Wide.All
import OpenK.AllK
import Wide.FinOn
import KE.KStateDown
import Open.SpecLaws
import KE.OsGo
import HandS.Head0
import HandS.Head1
import HandS.Head2
import HandS.HeadHook1
import HandS.Spec
import HandS.Words
import PySem.Challenge.RW_scanlist_s02_run
import KE.OsHead
import KE.GoesRaise
import HandS.ForSpec
import HandS.Comp
import HandS.ExcCtx
import PyProof.EqAt
import PyProof.EqKinds
import PyProof.TupleCall
import HandS.ExcInitHot
import KE.GoesEnumKw
import KE.GoesMore
import HandS.ForMost
import HandS.More
import HandS.Zip
import HandS.SortKw
import KE.IntTextLaws
import HandS.IsInst
import HandS.Flow
import HandS.NoneIn
import HandS.CallSlots
import HandS.StrMore
import HandS.Walk
import HandS.Hot
import HandS.HotCalls
import HandS.RaiseFrom
import HandS.SuiteRaise
import PyProof.TupleIter
import HandS.TryOnly
import HandS.WordsExc
import HandS.ExcInit
import OpenK.KCls
import KE.KAsSuite
import HandS.CallLocal
import HandS.Evl
import HandS.Wide
import HandS.Codes
import HandS.Iter
import PyProof.AutoSeq1
set_option linter.all false
set_option maxRecDepth 8000
namespace SlM
open Sf47
def forms : List (Bytes × List Bytes) := [(txt "LD", [txt "any"]), (txt "LDN", [txt "bit"]), (txt "ST", [txt "stored"]), (txt "STN", [txt "stored bit"]), (txt "S", [txt "stored bit"]), (txt "R", [txt "stored bit"]), (txt "NOT", []),
  (txt "AND", [txt "bit"]), (txt "OR", [txt "bit"]), (txt "XOR", [txt "bit"]), (txt "ANDN", [txt "bit"]), (txt "ORN", [txt "bit"]), (txt "XORN", [txt "bit"]),
  (txt "ADD", [txt "word"]), (txt "SUB", [txt "word"]), (txt "MUL", [txt "word"]), (txt "DIV", [txt "word"]), (txt "MOD", [txt "word"]),
  (txt "GT", [txt "word"]), (txt "GE", [txt "word"]), (txt "EQ", [txt "word"]), (txt "NE", [txt "word"]), (txt "LE", [txt "word"]), (txt "LT", [txt "word"]),
  (txt ")", []), (txt "JMP", [txt "label"]), (txt "JMPC", [txt "label"]), (txt "JMPCN", [txt "label"]), (txt "RET", []), (txt "RETC", []),
  (txt "TON", [txt "timer", txt "duration"]), (txt "TOF", [txt "timer", txt "duration"]), (txt "TP", [txt "timer", txt "duration"]), (txt "CTU", [txt "counter", txt "number"]), (txt "RC", [txt "counter"]), (txt "UP", [txt "edge"]), (txt "DOWN", [txt "edge"])]
def putOff : List Bytes := [txt "AND", txt "OR", txt "XOR", txt "ANDN", txt "ORN", txt "XORN", txt "ADD", txt "SUB", txt "MUL", txt "DIV", txt "MOD", txt "GT", txt "GE", txt "EQ", txt "NE", txt "LE", txt "LT"]
def kinds : List (Bytes × List Bytes) := [(txt "any", [txt "I", txt "Q", txt "M", txt "T", txt "C", txt "constant", txt "W", txt "E", txt "V", txt "number"]), (txt "bit", [txt "I", txt "Q", txt "M", txt "T", txt "C", txt "constant"]), (txt "word", [txt "W", txt "E", txt "V", txt "number"]),
  (txt "stored", [txt "Q", txt "M", txt "W"]), (txt "stored bit", [txt "Q", txt "M"]), (txt "timer", [txt "T"]), (txt "counter", [txt "C"]), (txt "edge", [txt "M"]), (txt "number", [txt "number"]), (txt "duration", [txt "number"]), (txt "label", [txt "label"])]
end SlM
set_option Elab.async false
set_option linter.all false
set_option maxRecDepth 100000
set_option maxHeartbeats 4000000
namespace PySem
namespace NapX
abbrev exTail : List Value := .type "Exception" :: .type "BaseException" :: .type "object" :: []
end NapX
end PySem
namespace Sl
open PySem PySem.Spec PyProof.Rows L2 SlM
abbrev Bytes := Sf47.Bytes
def S (b : Bytes) : Str := ⟨(b.map UInt8.toNat).toArray⟩
def letters : Str := Str.ofString "ABCDEFGHIJKLMNOPQRSTUVWXYZabcdefghijklmnopqrstuvwxyz_"
def digits : Str := Str.ofString "0123456789"
def marks : Str := Str.ofString ":()"
def blanks : Str := Str.ofString " \t"
/-- the i-th statement of the text -/
def top (i : Nat) : Stmt := PySem.Challenge.pw_scanlist_s02_run.main.body.getD i (.Pass ⟨0, 0, 0, 0⟩)
abbrev s_rows_of : Stmt := top 19
abbrev s_text_of : Stmt := top 20
abbrev s_signs_of : Stmt := top 21
abbrev s_end_of_sign : Stmt := top 22
abbrev s_end_of_number : Stmt := top 23
abbrev s_end_of_run : Stmt := top 24
abbrev s_sign_of : Stmt := top 25
abbrev s_word_of : Stmt := top 26
abbrev s_number_of : Stmt := top 28
abbrev s_is_word : Stmt := top 29
abbrev s_read_operand : Stmt := top 34
abbrev s_label_of : Stmt := top 35
abbrev s_value_of : Stmt := top 36
abbrev s_named_value : Stmt := top 37
abbrev s_is_plain_number : Stmt := top 38
abbrev s_line_init : Stmt := inClass (top 43) 0
abbrev s_read_line : Stmt := top 44
abbrev s_read_label : Stmt := top 45
abbrev s_read_instruction : Stmt := top 46
abbrev s_read_put_off : Stmt := top 47
abbrev s_read_operands : Stmt := top 48
abbrev s_read_program : Stmt := top 55
abbrev s_read_lines : Stmt := top 56
abbrev s_depth_behind : Stmt := top 57
abbrev s_instructions_with : Stmt := top 58
abbrev s_refuse_wrong_labels : Stmt := top 59
abbrev s_labels_of : Stmt := top 60
abbrev s_size_of : Stmt := top 39
abbrev s_bit_of : Stmt := top 63
abbrev s_in_range : Stmt := top 66
abbrev s_one_more : Stmt := top 67
abbrev s_count_up : Stmt := top 70
abbrev s_reset : Stmt := top 71
abbrev s_use_timer : Stmt := top 74
abbrev s_delay_on : Stmt := top 75
abbrev s_delay_off : Stmt := top 76
abbrev s_pulse : Stmt := top 77
abbrev s_new_cells : Stmt := top 80
abbrev s_begin_scan : Stmt := top 81
abbrev s_output_of : Stmt := top 82
abbrev s_words_of : Stmt := top 83
abbrev s_show_timer : Stmt := top 84
abbrev s_show_counter : Stmt := top 85
abbrev s_both : Stmt := top 87
abbrev s_either : Stmt := top 88
abbrev s_differing : Stmt := top 89
abbrev s_left_alone : Stmt := top 90
abbrev s_left_or_other : Stmt := top 91
abbrev s_alike : Stmt := top 92
abbrev s_sum_of : Stmt := top 93
abbrev s_difference : Stmt := top 94
abbrev s_product : Stmt := top 95
abbrev s_quotient : Stmt := top 96
abbrev s_remainder : Stmt := top 97
abbrev s_refuse_zero : Stmt := top 98
abbrev s_greater : Stmt := top 99
abbrev s_not_less : Stmt := top 100
abbrev s_not_greater : Stmt := top 101
abbrev s_less : Stmt := top 102
abbrev s_work_out : Stmt := top 105
abbrev s_load : Stmt := top 107
abbrev s_load_other : Stmt := top 108
abbrev s_store_bit : Stmt := top 109
abbrev s_store_other : Stmt := top 110
abbrev s_store_word : Stmt := top 111
abbrev s_set_bit : Stmt := top 112
abbrev s_clear_bit : Stmt := top 113
abbrev s_turn : Stmt := top 114
abbrev s_operate : Stmt := top 115
abbrev s_put_off : Stmt := top 116
abbrev s_close : Stmt := top 117
abbrev s_go_on : Stmt := top 118
abbrev s_go_on_if : Stmt := top 119
abbrev s_go_on_unless : Stmt := top 120
abbrev s_run_timer : Stmt := top 121
abbrev s_run_counter : Stmt := top 122
abbrev s_reset_counter : Stmt := top 123
abbrev s_rise : Stmt := top 124
abbrev s_fall : Stmt := top 125
abbrev s_action_of : Stmt := top 127
abbrev s_steps_of : Stmt := top 130
abbrev s_targets_of : Stmt := top 131
abbrev s_place_of : Stmt := top 132
abbrev s_limit_of : Stmt := top 133
abbrev s_target_of : Stmt := top 134
abbrev s_do_scans : Stmt := top 137
abbrev s_do_scan : Stmt := top 138
abbrev s_do_step : Stmt := top 139
abbrev s_run : Stmt := top 142
abbrev s_times_fall : Stmt := top 143
abbrev s_answer_of : Stmt := top 144
abbrev s_word_of_results : Stmt := top 64
abbrev s_fault_init : Stmt := inClass (top 3) 0
abbrev s_wrongkind_init : Stmt := inClass (top 4) 0
abbrev s_wordoutofrange_init : Stmt := inClass (top 5) 0
abbrev s_divisorzero_init : Stmt := inClass (top 6) 0
abbrev s_scantoolong_init : Stmt := inClass (top 7) 0
abbrev s_stopped_init : Stmt := inClass (top 8) 0
abbrev s_counter_init : Stmt := inClass (top 69) 0
abbrev s_timer_init : Stmt := inClass (top 73) 0
abbrev s_machine_init : Stmt := inClass (top 79) 0
abbrev s_step_init : Stmt := inClass (top 129) 0
def others : Str := Str.ofString "-;\n"
def constT : List (Bytes × Int) := [(Sf47.txt "FALSE", 0), (Sf47.txt "TRUE", 1)]
def sizeT : List (Bytes × Int) := [(Sf47.txt "I", 64), (Sf47.txt "Q", 64), (Sf47.txt "M", 256), (Sf47.txt "T", 32), (Sf47.txt "C", 32), (Sf47.txt "W", 256), (Sf47.txt "E", 32), (Sf47.txt "V", 32)]
def noPar : List Bytes := [Sf47.txt "JMP", Sf47.txt "JMPC", Sf47.txt "JMPCN", Sf47.txt "RET", Sf47.txt "RETC", Sf47.txt "ST", Sf47.txt "STN", Sf47.txt "S", Sf47.txt "R"]
def jumpN : List Bytes := [Sf47.txt "JMP", Sf47.txt "JMPC", Sf47.txt "JMPCN"]
def bitOps : List (Str × Str) := [(Str.ofString "AND", Str.ofString "both"), (Str.ofString "OR", Str.ofString "either"), (Str.ofString "XOR", Str.ofString "differing"), (Str.ofString "ANDN", Str.ofString "left_alone"), (Str.ofString "ORN", Str.ofString "left_or_other"), (Str.ofString "XORN", Str.ofString "alike")]
def wordOps : List (Str × Str) := [(Str.ofString "ADD", Str.ofString "sum_of"), (Str.ofString "SUB", Str.ofString "difference"), (Str.ofString "MUL", Str.ofString "product"), (Str.ofString "DIV", Str.ofString "quotient"), (Str.ofString "MOD", Str.ofString "remainder"), (Str.ofString "GT", Str.ofString "greater"), (Str.ofString "GE", Str.ofString "not_less"), (Str.ofString "EQ", Str.ofString "alike"), (Str.ofString "NE", Str.ofString "differing"), (Str.ofString "LE", Str.ofString "not_greater"), (Str.ofString "LT", Str.ofString "less")]
def actTab : List (Str × Str) := [(Str.ofString "LD", Str.ofString "load"), (Str.ofString "LDN", Str.ofString "load_other"), (Str.ofString "ST", Str.ofString "store_bit"), (Str.ofString "STN", Str.ofString "store_other"), (Str.ofString "S", Str.ofString "set_bit"), (Str.ofString "R", Str.ofString "clear_bit"), (Str.ofString "NOT", Str.ofString "turn"), (Str.ofString ")", Str.ofString "close"), (Str.ofString "JMP", Str.ofString "go_on"), (Str.ofString "JMPC", Str.ofString "go_on_if"), (Str.ofString "JMPCN", Str.ofString "go_on_unless"), (Str.ofString "RET", Str.ofString "go_on"), (Str.ofString "RETC", Str.ofString "go_on_if"), (Str.ofString "TON", Str.ofString "run_timer"), (Str.ofString "TOF", Str.ofString "run_timer"), (Str.ofString "TP", Str.ofString "run_timer"), (Str.ofString "CTU", Str.ofString "run_counter"), (Str.ofString "RC", Str.ofString "reset_counter"), (Str.ofString "UP", Str.ofString "rise"), (Str.ofString "DOWN", Str.ofString "fall")]
def defsL : List (Str × Str × Stmt) := [(Str.ofString "rows_of", Str.ofString "rows_of", s_rows_of), (Str.ofString "text_of", Str.ofString "text_of", s_text_of), (Str.ofString "signs_of", Str.ofString "signs_of", s_signs_of), (Str.ofString "end_of_sign", Str.ofString "end_of_sign", s_end_of_sign), (Str.ofString "end_of_number", Str.ofString "end_of_number", s_end_of_number), (Str.ofString "end_of_run", Str.ofString "end_of_run", s_end_of_run), (Str.ofString "sign_of", Str.ofString "sign_of", s_sign_of), (Str.ofString "word_of_signs", Str.ofString "word_of", s_word_of), (Str.ofString "number_of", Str.ofString "number_of", s_number_of), (Str.ofString "is_word", Str.ofString "is_word", s_is_word), (Str.ofString "read_operand", Str.ofString "read_operand", s_read_operand), (Str.ofString "label_of", Str.ofString "label_of", s_label_of), (Str.ofString "value_of", Str.ofString "value_of", s_value_of), (Str.ofString "named_value", Str.ofString "named_value", s_named_value), (Str.ofString "is_plain_number", Str.ofString "is_plain_number", s_is_plain_number), (Str.ofString "read_line", Str.ofString "read_line", s_read_line), (Str.ofString "read_label", Str.ofString "read_label", s_read_label), (Str.ofString "read_instruction", Str.ofString "read_instruction", s_read_instruction), (Str.ofString "read_put_off", Str.ofString "read_put_off", s_read_put_off), (Str.ofString "read_operands", Str.ofString "read_operands", s_read_operands), (Str.ofString "read_program", Str.ofString "read_program", s_read_program), (Str.ofString "read_lines", Str.ofString "read_lines", s_read_lines), (Str.ofString "depth_behind", Str.ofString "depth_behind", s_depth_behind), (Str.ofString "instructions_with", Str.ofString "instructions_with", s_instructions_with), (Str.ofString "refuse_wrong_labels", Str.ofString "refuse_wrong_labels", s_refuse_wrong_labels), (Str.ofString "labels_of", Str.ofString "labels_of", s_labels_of), (Str.ofString "size_of", Str.ofString "size_of", s_size_of), (Str.ofString "bit_of", Str.ofString "bit_of", s_bit_of), (Str.ofString "in_range", Str.ofString "in_range", s_in_range), (Str.ofString "one_more", Str.ofString "one_more", s_one_more), (Str.ofString "count_up", Str.ofString "count_up", s_count_up), (Str.ofString "reset", Str.ofString "reset", s_reset), (Str.ofString "use_timer", Str.ofString "use_timer", s_use_timer), (Str.ofString "delay_on", Str.ofString "delay_on", s_delay_on), (Str.ofString "delay_off", Str.ofString "delay_off", s_delay_off), (Str.ofString "pulse", Str.ofString "pulse", s_pulse), (Str.ofString "new_cells", Str.ofString "new_cells", s_new_cells), (Str.ofString "begin_scan", Str.ofString "begin_scan", s_begin_scan), (Str.ofString "output_of", Str.ofString "output_of", s_output_of), (Str.ofString "words_of", Str.ofString "words_of", s_words_of), (Str.ofString "show_timer", Str.ofString "show_timer", s_show_timer), (Str.ofString "show_counter", Str.ofString "show_counter", s_show_counter), (Str.ofString "both", Str.ofString "both", s_both), (Str.ofString "either", Str.ofString "either", s_either), (Str.ofString "differing", Str.ofString "differing", s_differing), (Str.ofString "left_alone", Str.ofString "left_alone", s_left_alone), (Str.ofString "left_or_other", Str.ofString "left_or_other", s_left_or_other), (Str.ofString "alike", Str.ofString "alike", s_alike), (Str.ofString "sum_of", Str.ofString "sum_of", s_sum_of), (Str.ofString "difference", Str.ofString "difference", s_difference), (Str.ofString "product", Str.ofString "product", s_product), (Str.ofString "quotient", Str.ofString "quotient", s_quotient), (Str.ofString "remainder", Str.ofString "remainder", s_remainder), (Str.ofString "refuse_zero", Str.ofString "refuse_zero", s_refuse_zero), (Str.ofString "greater", Str.ofString "greater", s_greater), (Str.ofString "not_less", Str.ofString "not_less", s_not_less), (Str.ofString "not_greater", Str.ofString "not_greater", s_not_greater), (Str.ofString "less", Str.ofString "less", s_less), (Str.ofString "work_out", Str.ofString "work_out", s_work_out), (Str.ofString "load", Str.ofString "load", s_load), (Str.ofString "load_other", Str.ofString "load_other", s_load_other), (Str.ofString "store_bit", Str.ofString "store_bit", s_store_bit), (Str.ofString "store_other", Str.ofString "store_other", s_store_other), (Str.ofString "store_word", Str.ofString "store_word", s_store_word), (Str.ofString "set_bit", Str.ofString "set_bit", s_set_bit), (Str.ofString "clear_bit", Str.ofString "clear_bit", s_clear_bit), (Str.ofString "turn", Str.ofString "turn", s_turn), (Str.ofString "operate", Str.ofString "operate", s_operate), (Str.ofString "put_off", Str.ofString "put_off", s_put_off), (Str.ofString "close", Str.ofString "close", s_close), (Str.ofString "go_on", Str.ofString "go_on", s_go_on), (Str.ofString "go_on_if", Str.ofString "go_on_if", s_go_on_if), (Str.ofString "go_on_unless", Str.ofString "go_on_unless", s_go_on_unless), (Str.ofString "run_timer", Str.ofString "run_timer", s_run_timer), (Str.ofString "run_counter", Str.ofString "run_counter", s_run_counter), (Str.ofString "reset_counter", Str.ofString "reset_counter", s_reset_counter), (Str.ofString "rise", Str.ofString "rise", s_rise), (Str.ofString "fall", Str.ofString "fall", s_fall), (Str.ofString "action_of", Str.ofString "action_of", s_action_of), (Str.ofString "steps_of", Str.ofString "steps_of", s_steps_of), (Str.ofString "targets_of", Str.ofString "targets_of", s_targets_of), (Str.ofString "place_of", Str.ofString "place_of", s_place_of), (Str.ofString "limit_of", Str.ofString "limit_of", s_limit_of), (Str.ofString "target_of", Str.ofString "target_of", s_target_of), (Str.ofString "do_scans", Str.ofString "do_scans", s_do_scans), (Str.ofString "do_scan", Str.ofString "do_scan", s_do_scan), (Str.ofString "do_step", Str.ofString "do_step", s_do_step), (Str.ofString "run", Str.ofString "run", s_run), (Str.ofString "times_fall", Str.ofString "times_fall", s_times_fall), (Str.ofString "answer_of", Str.ofString "answer_of", s_answer_of), (Str.ofString "word_of_results", Str.ofString "word_of", s_word_of_results)]
open He
abbrev s_nap_init : Stmt := inClass (top 2) 0
def faL : List Fa := [.free (Str.ofString "len"), .free (Str.ofString "int"), .free (Str.ofString "isinstance"), .free (Str.ofString "str"), .free (Str.ofString "ord"), .free (Str.ofString "zip"), .free (Str.ofString "enumerate"), .free (Str.ofString "bool"), .free (Str.ofString "min"), .free (Str.ofString "abs"), .free (Str.ofString "range"), .free (Str.ofString "reversed"), .free (Str.ofString "list"), .free (Str.ofString "any"), .str (Str.ofString "LETTERS") letters, .str (Str.ofString "DIGITS") digits, .str (Str.ofString "MARKS") marks, .str (Str.ofString "BLANKS") blanks, .str (Str.ofString "OTHERS") others, .str (Str.ofString "UNKNOWN") (Str.ofString "?"), .int (Str.ofString "ROW_LIMIT") 255, .int (Str.ofString "WORD_LIMIT") 15, .int (Str.ofString "NUMBER_BOUND") 2147483648, .int (Str.ofString "TEXT_LIMIT") 65536, .int (Str.ofString "DEPTH_LIMIT") 8, .int (Str.ofString "INSTRUCTION_LIMIT") 4096, .int (Str.ofString "WORD_BOUND") 2147483648, .int (Str.ofString "STEP_LIMIT") 100000, .int (Str.ofString "SCAN_LIMIT") 65536, .glo (Str.ofString "Line"), .cls (Str.ofString "Line"), .mkr (Str.ofString "Line"), .meth (Str.ofString "Line") (Str.ofString "__init__"), .noat (Str.ofString "Line") (Str.ofString "label"), .noat (Str.ofString "Line") (Str.ofString "name"), .noat (Str.ofString "Line") (Str.ofString "opens"), .noat (Str.ofString "Line") (Str.ofString "operands"), .glo (Str.ofString "Counter"), .cls (Str.ofString "Counter"), .mkr (Str.ofString "Counter"), .meth (Str.ofString "Counter") (Str.ofString "__init__"), .noat (Str.ofString "Counter") (Str.ofString "was_on"), .noat (Str.ofString "Counter") (Str.ofString "counted"), .noat (Str.ofString "Counter") (Str.ofString "bit"), .glo (Str.ofString "Timer"), .cls (Str.ofString "Timer"), .mkr (Str.ofString "Timer"), .meth (Str.ofString "Timer") (Str.ofString "__init__"), .noat (Str.ofString "Timer") (Str.ofString "was_on"), .noat (Str.ofString "Timer") (Str.ofString "since"), .noat (Str.ofString "Timer") (Str.ofString "has_run"), .noat (Str.ofString "Timer") (Str.ofString "elapsed"), .noat (Str.ofString "Timer") (Str.ofString "bit"), .glo (Str.ofString "Machine"), .cls (Str.ofString "Machine"), .mkr (Str.ofString "Machine"), .meth (Str.ofString "Machine") (Str.ofString "__init__"), .noat (Str.ofString "Machine") (Str.ofString "cells"), .noat (Str.ofString "Machine") (Str.ofString "timers"), .noat (Str.ofString "Machine") (Str.ofString "counters"), .noat (Str.ofString "Machine") (Str.ofString "now"), .noat (Str.ofString "Machine") (Str.ofString "result"), .noat (Str.ofString "Machine") (Str.ofString "put_by"), .noat (Str.ofString "Machine") (Str.ofString "at"), .glo (Str.ofString "Step"), .cls (Str.ofString "Step"), .mkr (Str.ofString "Step"), .meth (Str.ofString "Step") (Str.ofString "__init__"), .noat (Str.ofString "Step") (Str.ofString "line"), .noat (Str.ofString "Step") (Str.ofString "name"), .noat (Str.ofString "Step") (Str.ofString "action"), .noat (Str.ofString "Step") (Str.ofString "cells"), .noat (Str.ofString "Step") (Str.ofString "index"), .noat (Str.ofString "Step") (Str.ofString "limit"), .noat (Str.ofString "Step") (Str.ofString "target"), .glo (Str.ofString "Unreadable"), .keep (Str.ofString "Unreadable"), .glo (Str.ofString "NotAProgram"), .keep (Str.ofString "NotAProgram"), .glo (Str.ofString "Fault"), .keep (Str.ofString "Fault"), .glo (Str.ofString "WrongKind"), .keep (Str.ofString "WrongKind"), .glo (Str.ofString "WordOutOfRange"), .keep (Str.ofString "WordOutOfRange"), .glo (Str.ofString "DivisorZero"), .keep (Str.ofString "DivisorZero"), .glo (Str.ofString "ScanTooLong"), .keep (Str.ofString "ScanTooLong"), .glo (Str.ofString "Stopped"), .keep (Str.ofString "Stopped"), .meth (Str.ofString "NotAProgram") (Str.ofString "__init__"), .meth (Str.ofString "Fault") (Str.ofString "__init__"), .meth (Str.ofString "WrongKind") (Str.ofString "__init__"), .meth (Str.ofString "WordOutOfRange") (Str.ofString "__init__"), .meth (Str.ofString "DivisorZero") (Str.ofString "__init__"), .meth (Str.ofString "ScanTooLong") (Str.ofString "__init__"), .meth (Str.ofString "Stopped") (Str.ofString "__init__"), .exm (Str.ofString "Unreadable") (Str.ofString "Unreadable") true, .exm (Str.ofString "NotAProgram") (Str.ofString "NotAProgram") true, .exm (Str.ofString "Stopped") (Str.ofString "Stopped") true, .exm (Str.ofString "WrongKind") (Str.ofString "Fault") true, .exm (Str.ofString "WordOutOfRange") (Str.ofString "Fault") true, .exm (Str.ofString "DivisorZero") (Str.ofString "Fault") true, .exm (Str.ofString "ScanTooLong") (Str.ofString "Fault") true, .noat (Str.ofString "NotAProgram") (Str.ofString "line"), .noat (Str.ofString "Stopped") (Str.ofString "number"), .noat (Str.ofString "Stopped") (Str.ofString "line"), .noat (Str.ofString "WrongKind") (Str.ofString "number"), .noat (Str.ofString "WordOutOfRange") (Str.ofString "number"), .noat (Str.ofString "DivisorZero") (Str.ofString "number"), .noat (Str.ofString "ScanTooLong") (Str.ofString "number")]
def initL : List (Str × Stmt) := [((Str.ofString "Line"), s_line_init), ((Str.ofString "Counter"), s_counter_init), ((Str.ofString "Timer"), s_timer_init), ((Str.ofString "Machine"), s_machine_init), ((Str.ofString "Step"), s_step_init), ((Str.ofString "NotAProgram"), s_nap_init), ((Str.ofString "Fault"), s_fault_init), ((Str.ofString "WrongKind"), s_wrongkind_init), ((Str.ofString "WordOutOfRange"), s_wordoutofrange_init), ((Str.ofString "DivisorZero"), s_divisorzero_init), ((Str.ofString "ScanTooLong"), s_scantoolong_init), ((Str.ofString "Stopped"), s_stopped_init)]
def dotInit (x : Str) : Str := ⟨x.cps ++ (Str.ofString ".__init__").cps⟩
def fnL : List FnD := (defsL.map fun d => ⟨(d.1, none), d.2.1, d.2.1, defArgs d.2.2, defBody d.2.2, defScope d.2.2⟩) ++ initL.map fun d => ⟨(d.1, some (Str.ofString "__init__")), Str.ofString "__init__", dotInit d.1, defArgs d.2, defBody d.2, defScope d.2⟩
def keepB (K : PySem.W.Frag) : Bool := defsL.all fun d => (Fa.glo d.1).ok K && (Fa.keep d.1).ok K
def kwB (K : PySem.W.Frag) (p : Str × Option Str) : Bool := match K.lookup (fAd K p) with
  | some ⟨_, _, .func fd, _⟩ => decide (fd.kwdefaults = .none)
  | _ => false
/-- an own error's class under tl -/
def excB (K : PySem.W.Frag) (C : Addr) (tl : List Value) : Bool := match K.lookup C with
  | some ⟨.type "type", _, .cls cd, sl⟩ => (match cd.mro, sl.toList with
    | .ref C' :: bm, [_, _, _, _, some (.builtin n), _] => C' == C && n == "Exception.__new__" && !cd.hasDel && cd.hasDict && decide (bm = tl)
    | _, _ => false)
  | _ => false
/-- what else an error's class must show -/
def exmB (K : PySem.W.Frag) (x : Str) : Bool := eqO (PySem.W.findIn K (.ref (ga K x)) "__setattr__") (some (some (.builtin "object.__setattr__"))) && (eqO (PySem.W.findIn K (.ref (ga K x)) "__getattribute__") (some (some (.builtin "BaseException.__getattribute__"))) && (eqO (PySem.W.findIn K (.ref (ga K x)) "__getattr__") (some none) &&
  (decide (PySem.W.typeIn K (.ref (ma K (ga K x) "__init__")) = some (.type "function")) && (decide (PySem.W.subIn K (.ref (ga K x)) (.type "BaseException") = some true) && (decide (PySem.W.typeIn K (.ref (ga K x)) = some (.type "type")) && PySem.W.hasDictIn K (ga K x))))))
def unB (K : PySem.W.Frag) : Bool := PySem.W.excIn K (ga K "Unreadable") [.type "Exception", .type "BaseException", .type "object"] "Exception.__new__" && (decide (PySem.W.subIn K (.ref (ga K "Unreadable")) (.type "BaseException") = some true) && decide (PySem.W.typeIn K (.ref (ga K "Unreadable")) = some (.type "type")))
def faultB (K : PySem.W.Frag) : Bool := PySem.W.readsIn K (ga K "Fault") (.type "type") && (eqO (PySem.W.specialIn K (.ref (ga K "Fault")) "__getattribute__") (some (some (.builtin "type.__getattribute__"))) && (match PySem.W.findCls K (.ref (ga K "Fault")) (.type "type") "__init__" with
  | some (.val (.ref a)) => decide (a = ma K (ga K "Fault") "__init__")
  | _ => false))
def pairB {β : Type} (f : β → Value → Bool) : List DictEntry → List (Str × β) → Bool
  | [], [] => true
  | e :: l, p :: m => (match e.key with
    | .str s _ => decide (s = p.1)
    | _ => false) && f p.2 e.val && pairB f l m
  | _, _ => false
def entsOf (K : PySem.W.Frag) (x : Str) : List DictEntry := match K.lookup (ga K x) with
  | some ⟨_, _, .dict es _, _⟩ => es.toList
  | _ => []
def dictB (K : PySem.W.Frag) (x : Str) : Bool := match K.lookup (ga K x) with
  | some ⟨.type "dict", none, .dict _ _, sl⟩ => sl.isEmpty && !(ga K x == sysModules)
  | _ => false
def strsB : List Value → List Str → Bool
  | [], [] => true
  | .str s _ :: l, k :: m => decide (s = k) && strsB l m
  | _, _ => false
def tupB (K : PySem.W.Frag) (ks : List Str) (u : Value) : Bool := match u with
  | .ref a => (match K.lookup a with
    | some ⟨.type "tuple", _, .seq its _, _⟩ => decide (its.size ≤ 1000) && strsB its.toList ks
    | _ => false)
  | _ => false
def intB (n : Int) (u : Value) : Bool := match u with
  | .int j _ => decide (j = n)
  | _ => false
def fnB (K : PySem.W.Frag) (y : Str) (u : Value) : Bool := match u with
  | .ref a => eqO (PySem.W.nsIn K mainGlobals y) (some (some (.ref a)))
  | _ => false
def sizeP : List (Str × Int) := sizeT.map fun p => (S p.1, p.2)
def constP : List (Str × Int) := constT.map fun p => (S p.1, p.2)
def kindP : List (Str × List Str) := kinds.map fun p => (S p.1, p.2.map S)
def formP : List (Str × List Str) := forms.map fun p => (S p.1, p.2.map S)
def tupCB (K : PySem.W.Frag) (x : Str) (ks : List Str) : Bool := match PySem.W.nsIn K mainGlobals x with
  | some (some u) => tupB K ks u
  | _ => false
def tabN : List Str := [Str.ofString "CONSTANTS", Str.ofString "SIZES", Str.ofString "KINDS", Str.ofString "FORMS", Str.ofString "ACTIONS", Str.ofString "BIT_OPERATIONS", Str.ofString "WORD_OPERATIONS"]
def xL (K : PySem.W.Frag) : List Bool := [keepB K, unB K, faultB K,
  exmB K "NotAProgram",
  exmB K "WrongKind",
  exmB K "WordOutOfRange",
  exmB K "DivisorZero",
  exmB K "ScanTooLong",
  exmB K "Stopped",
  excB K (ga K "NotAProgram") PySem.NapX.exTail,
  excB K (ga K "Stopped") PySem.NapX.exTail,
  excB K (ga K "WrongKind") (.ref (ga K "Fault") :: PySem.NapX.exTail),
  excB K (ga K "WordOutOfRange") (.ref (ga K "Fault") :: PySem.NapX.exTail),
  excB K (ga K "DivisorZero") (.ref (ga K "Fault") :: PySem.NapX.exTail),
  excB K (ga K "ScanTooLong") (.ref (ga K "Fault") :: PySem.NapX.exTail),
  kwB K (Str.ofString "NotAProgram", some (Str.ofString "__init__")),
  kwB K (Str.ofString "Stopped", some (Str.ofString "__init__")),
  (Fa.glo "CONSTANTS").ok K,
  dictB K "CONSTANTS",
  (Fa.glo "SIZES").ok K,
  dictB K "SIZES",
  (Fa.glo "KINDS").ok K,
  dictB K "KINDS",
  (Fa.glo "FORMS").ok K,
  dictB K "FORMS",
  (Fa.glo "ACTIONS").ok K,
  dictB K "ACTIONS",
  (Fa.glo "BIT_OPERATIONS").ok K,
  dictB K "BIT_OPERATIONS",
  (Fa.glo "WORD_OPERATIONS").ok K,
  dictB K "WORD_OPERATIONS",
  pairB intB (entsOf K "CONSTANTS") constP,
  pairB intB (entsOf K "SIZES") sizeP,
  pairB (tupB K) (entsOf K "KINDS") kindP,
  pairB (tupB K) (entsOf K "FORMS") formP,
  pairB (fnB K) (entsOf K "ACTIONS") actTab,
  pairB (fnB K) (entsOf K "BIT_OPERATIONS") bitOps,
  pairB (fnB K) (entsOf K "WORD_OPERATIONS") wordOps,
  tupCB K "MAY_BE_PUT_OFF" (putOff.map S),
  tupCB K "JUMPS" (jumpN.map S),
  tupCB K "NOT_IN_PARENTHESES" (noPar.map S)]
abbrev AlR : Type := Bool × List FnV × List (List Int)
def obsR (K : PySem.W.Frag) : AlR := ((faL.all fun f => f.ok K) && ((fnL.all fun d => (Fa.code d.at_ d.qual).ok K) && (xL K).all id), fnL.map (fun d => fnObs K d.at_), tabN.map fun x => (entsOf K x).map (·.hash))
def hashesOf (w : World) : List (List Int) := [constP.map fun p => PyData.keyHash w.params p.1, sizeP.map fun p => PyData.keyHash w.params p.1, kindP.map fun p => PyData.keyHash w.params p.1, formP.map fun p => PyData.keyHash w.params p.1, actTab.map fun p => PyData.keyHash w.params p.1, bitOps.map fun p => PyData.keyHash w.params p.1, wordOps.map fun p => PyData.keyHash w.params p.1]
def valR (w : World) : AlR := (true, fnL.map FnD.val, hashesOf w)
def refsG (g : Addr → Option Obj) (a : Addr) : List Addr := match g a with
  | some o => refsO o
  | none => []
def nsG (g : Addr → Option Obj) (a : Addr) : List Addr := match g a with
  | some ⟨_, _, .cls cd, _⟩ => [cd.ns]
  | _ => []
def lev1 (g : Addr → Option Obj) : List Addr := refsG g mainGlobals
def levM (g : Addr → Option Obj) : List Addr := ((lev1 g).flatMap (nsG g)).flatMap (refsG g)
def asL (g : Addr → Option Obj) : List Addr := mainGlobals :: cStatics :: (lev1 g ++ ((lev1 g).flatMap (refsG g) ++ (levM g ++ (levM g).flatMap (refsG g))))
end Sl
set_option Elab.async false
set_option linter.all false
set_option maxRecDepth 100000
namespace HeadRun
open PySem PySem.W PySem.Calls PyProof.Rows HandSHeadRun
abbrev P : Program := PySem.Challenge.rw_scanlist_s02_run.prog
abbrev qv : Program := view P [142]
def names0 : List PySem.Str := [Str.ofString "Unreadable", Str.ofString "NotAProgram", Str.ofString "Fault", Str.ofString "WrongKind", Str.ofString "WordOutOfRange", Str.ofString "DivisorZero", Str.ofString "ScanTooLong", Str.ofString "Stopped", Str.ofString "LETTERS", Str.ofString "DIGITS", Str.ofString "MARKS", Str.ofString "BLANKS", Str.ofString "OTHERS", Str.ofString "UNKNOWN", Str.ofString "ROW_LIMIT", Str.ofString "WORD_LIMIT", Str.ofString "NUMBER_BOUND", Str.ofString "rows_of", Str.ofString "text_of", Str.ofString "signs_of", Str.ofString "end_of_sign", Str.ofString "end_of_number", Str.ofString "end_of_run", Str.ofString "sign_of", Str.ofString "word_of", Str.ofString "word_of_signs", Str.ofString "number_of", Str.ofString "is_word", Str.ofString "CONSTANTS", Str.ofString "SIZES", Str.ofString "KINDS", Str.ofString "read_operand", Str.ofString "label_of", Str.ofString "value_of", Str.ofString "named_value"]
def names1 : List PySem.Str := [Str.ofString "is_plain_number", Str.ofString "size_of", Str.ofString "FORMS", Str.ofString "MAY_BE_PUT_OFF", Str.ofString "Line", Str.ofString "read_line", Str.ofString "read_label", Str.ofString "read_instruction", Str.ofString "read_put_off", Str.ofString "read_operands", Str.ofString "TEXT_LIMIT", Str.ofString "DEPTH_LIMIT", Str.ofString "INSTRUCTION_LIMIT", Str.ofString "JUMPS", Str.ofString "NOT_IN_PARENTHESES", Str.ofString "read_program", Str.ofString "read_lines", Str.ofString "depth_behind", Str.ofString "instructions_with", Str.ofString "refuse_wrong_labels", Str.ofString "labels_of", Str.ofString "WORD_BOUND", Str.ofString "bit_of", Str.ofString "word_of_results", Str.ofString "in_range", Str.ofString "one_more", Str.ofString "Counter", Str.ofString "count_up", Str.ofString "reset", Str.ofString "Timer", Str.ofString "use_timer", Str.ofString "delay_on", Str.ofString "delay_off", Str.ofString "pulse", Str.ofString "Machine"]
def names2 : List PySem.Str := [Str.ofString "new_cells", Str.ofString "begin_scan", Str.ofString "output_of", Str.ofString "words_of", Str.ofString "show_timer", Str.ofString "show_counter", Str.ofString "both", Str.ofString "either", Str.ofString "differing", Str.ofString "left_alone", Str.ofString "left_or_other", Str.ofString "alike", Str.ofString "sum_of", Str.ofString "difference", Str.ofString "product", Str.ofString "quotient", Str.ofString "remainder", Str.ofString "refuse_zero", Str.ofString "greater", Str.ofString "not_less", Str.ofString "not_greater", Str.ofString "less", Str.ofString "BIT_OPERATIONS", Str.ofString "WORD_OPERATIONS", Str.ofString "work_out", Str.ofString "load", Str.ofString "load_other", Str.ofString "store_bit", Str.ofString "store_other", Str.ofString "store_word", Str.ofString "set_bit", Str.ofString "clear_bit", Str.ofString "turn", Str.ofString "operate", Str.ofString "put_off"]
def names3 : List PySem.Str := [Str.ofString "close", Str.ofString "go_on", Str.ofString "go_on_if", Str.ofString "go_on_unless", Str.ofString "run_timer", Str.ofString "run_counter", Str.ofString "reset_counter", Str.ofString "rise", Str.ofString "fall", Str.ofString "ACTIONS", Str.ofString "action_of", Str.ofString "Step", Str.ofString "steps_of", Str.ofString "targets_of", Str.ofString "place_of", Str.ofString "limit_of", Str.ofString "target_of", Str.ofString "STEP_LIMIT", Str.ofString "do_scans", Str.ofString "do_scan", Str.ofString "do_step", Str.ofString "SCAN_LIMIT", Str.ofString "times_fall", Str.ofString "answer_of"]
def names : List PySem.Str := names0 ++ names1 ++ names2 ++ names3
def obT (s : SharedT) : Sl.AlR := Sl.obsR (He.frG (getT s) (Sl.asL (getT s)))
noncomputable def endR (w : World) (os : OsState) : Option SharedT := endF (stepQ (denQ tabQ) P w) 8300 P w os
def RunA (w : World) : Prop := ∀ os : OsState, (endR w os).map (fun s => (looksF P (boot_heap w.params) s.abs, seenQ qv names (importedModules P.main.body) (fun s => xlAt qv [] s && recOk [] s) s.abs)) = some (true, openGood qv names)
def kT (s : SharedT) : Frag := He.frG (getT s) (Sl.asL (getT s))
def RunC (w : World) : Prop := ∀ os : OsState, (endR w os).map (fun s => (Sl.faL.all fun f => f.ok (kT s)) && Sl.fnL.all fun d => (He.Fa.code d.at_ d.qual).ok (kT s)) = some true
def RunD (w : World) : Prop := ∀ os : OsState, (endR w os).map (fun s => (Sl.fnL.map fun d => He.fnObs (kT s) d.at_, (Sl.xL (kT s)).all id, Sl.tabN.map fun x => (Sl.entsOf (kT s) x).map (·.hash))) = some (Sl.fnL.map He.FnD.val, true, Sl.hashesOf w)
end HeadRun
set_option Elab.async false
set_option linter.all false
set_option maxRecDepth 100000
namespace HeadRun
open PySem PySem.W PySem.Calls PyProof.Rows HandSHeadRun
set_option maxHeartbeats 0 in
theorem runA_f (w : World) : RunA (w.withFollow "special-get-raises" false) := by
  intro os
  kernel_rfl
end HeadRun
set_option Elab.async false
set_option linter.all false
set_option maxRecDepth 100000
namespace HeadRun
open PySem PySem.W PySem.Calls PyProof.Rows HandSHeadRun
set_option maxHeartbeats 0 in
theorem runA_t (w : World) : RunA (w.withFollow "special-get-raises" true) := by
  intro os
  kernel_rfl
end HeadRun
set_option Elab.async false
set_option linter.all false
set_option maxRecDepth 100000
namespace HeadRun
open PySem PySem.W PySem.Calls PyProof.Rows HandSHeadRun
set_option maxHeartbeats 0 in
theorem runC_f (w : World) : RunC (w.withFollow "special-get-raises" false) := by
  intro os
  kernel_rfl
end HeadRun
set_option Elab.async false
set_option linter.all false
set_option maxRecDepth 100000
namespace HeadRun
open PySem PySem.W PySem.Calls PyProof.Rows HandSHeadRun
set_option maxHeartbeats 0 in
theorem runC_t (w : World) : RunC (w.withFollow "special-get-raises" true) := by
  intro os
  kernel_rfl
end HeadRun
set_option Elab.async false
set_option linter.all false
set_option maxRecDepth 100000
namespace HeadRun
open PySem PySem.W PySem.Calls PyProof.Rows HandSHeadRun
set_option maxHeartbeats 0 in
theorem runD_f (w : World) : RunD (w.withFollow "special-get-raises" false) := by
  intro os
  kernel_rfl
end HeadRun
set_option Elab.async false
set_option linter.all false
set_option maxRecDepth 100000
namespace HeadRun
open PySem PySem.W PySem.Calls PyProof.Rows HandSHeadRun
set_option maxHeartbeats 0 in
theorem runD_t (w : World) : RunD (w.withFollow "special-get-raises" true) := by
  intro os
  kernel_rfl
end HeadRun
set_option Elab.async false
set_option linter.all false
set_option maxRecDepth 100000
set_option maxHeartbeats 8000000
namespace HeadRun
open PySem PySem.W PySem.Calls PyProof.Rows HandSHeadRun
theorem well_said : PySem.Challenge.rw_scanlist_s02_run.wellSaid = true := by
  unfold OpenSpec.wellSaid
  rw [PySem.W.Fast.te12908688711261696721]
  kernel_rfl
theorem chains_ok : (chainsOk qv && opensWell PySem.Challenge.rw_scanlist_s02_run.prog) = true := by decide +kernel
theorem tables_whole : PySem.Challenge.rw_scanlist_s02_run.prog.tablesWhole = true := by
  unfold Program.tablesWhole TablesWhole.wProgram
  rw [PySem.W.Fast.te6116379765354995101]
  kernel_rfl
theorem prog_bare : PySem.Challenge.rw_scanlist_s02_run.prog.bare := ⟨rfl, rfl, rfl, rfl, rfl, tables_whole⟩
end HeadRun
set_option Elab.async false
set_option linter.all false
set_option maxRecDepth 100000
set_option maxHeartbeats 4000000
namespace Sl
open PySem PySem.Spec PyProof.Rows L2
/-! ### a list comprehension whose element is a call that may raise -/
/-- what a call of the block Y lets out -/
def BlkAir (X Y : Cx) (WB : XK) : Value → Shared → Prop := fun u s' => ∃ pins σ H s, Inv Y pins σ H s ∧ L2N.CX X.prog X.w X.stack H s WB u s'
abbrev blkX (X : Cx) (s : Shared) (H : Hp) (scope : Scope) (ce : Env) (fp : List Addr) (WB : XK) : Cx := (X.blk s H scope ce fp).wish (BlkAir X (X.blk s H scope ce fp) WB)
theorem pass_blk {X : Cx} {s : Shared} {H : Hp} {scope : Scope} {ce : Env} {fp : List Addr} {WB : XK} (σ : L2.St) : PassesAt (L2N.CX X.prog X.w) (blkX X s H scope ce fp WB) σ WB :=
  fun pins H' s1 e s' I c => ⟨pins, σ, H', s1, I.unwish, c⟩
theorem frames_less {h B B' : Heap} (k : ∀ b, B.get? b = none → B'.get? b = none) : ∀ {l : List Env}, h.FunFrames B l → h.FunFrames B' l
  | [], _ => trivial
  | _ :: _, ⟨x, ⟨L, o, y1, y2, y3⟩, z⟩ => ⟨x, ⟨L, o, y1, k L y2, y3⟩, frames_less k z⟩
section
variable {X : Cx} {WB : XK}
theorem blk_out {pins : List (Addr × Obj)} {σ : L2.St} {H3 : Hp} {s3 s' : Shared} {scope : Scope} {ce : Env} {fp : List Addr} {u : Value} (hs : X.stack = X.env :: X.outer) (hf : X.env.frame = some X.env.locals)
    (tk : L2N.Takes X (fun cls d _ H => WB cls d H)) (hce : ce.frame = X.env.frame) (I3 : Inv X pins σ H3 s3) (f3 : ∀ b ∈ fp, FpOk X pins H3 b) (hC : s3.heap.objs.size ≤ ce.locals)
    (x : BlkAir X (X.blk s3 H3 scope ce fp) WB u s') : notedBy (model X.prog X.w) X.A ce (CompFails (model X.prog X.w) X.A X.xe ce) u s' := by
  obtain ⟨pn, σb, Hb, sb, Ib, c⟩ := x
  have J : Inv X pins σ Hb sb := I3.call' (ch := fp) Ib.os Ib.base Ib.hok Ib.bare fun b hb => ⟨(f3 b hb).2.2.2.1, (f3 b hb).2.1, (f3 b hb).2.2.2.2.1, (f3 b hb).2.2.2.2.2⟩
  obtain ⟨mC, hnC, _⟩ := Ib.loc
  have hnC : sb.heap.Ns ce.locals mC := hnC
  have nCb : Hb ce.locals = none := Ib.free
  have FC : ∀ H' : Hp, H' ce.locals = none → FpOk X pins H' ce.locals := fun H' n => I3.fpOk hC n
  obtain ⟨_, cL, cF, cO, cC, cP⟩ := FC Hb nCb
  have cS : ce.locals ∉ frs X.stack := fun hm => (List.mem_cons.mp (I3.stkSub _ hm)).elim cL cF
  obtain ⟨a, B, H', cls, d, rfl, fl, hok, ub, na, os, ag, hE⟩ := c
  obtain ⟨oC, es, ep, goC, hdC, restC⟩ := id hnC
  have nC' : H' ce.locals = none := ub.free _ _ goC nCb
  have hnC' : s'.heap.Ns ce.locals mC := ⟨oC, es, ep, fl.1 _ _ (ub.keep _ _ goC nCb cS), hdC, restC⟩
  have x2 : L2N.XE X (fun cls d _ H => WB cls d H ∧ H ce.locals = none) (.ref a) s' := L2N.XE.of_call J (fun _ _ _ h => h) ⟨a, B, H', cls, d, rfl, fl, hok, ub, na, os, ag, hE, nC'⟩
  clear fl hok ub na os ag hE
  obtain ⟨a2, B2, sI, pins2, σ2, H2, cls2, d2, e2, I2, nb, up, sky, na2, os2, ag2, w2, nC2⟩ := x2
  cases e2
  have I2' : Inv X [] σ2 H2 sI := I2.pins_of (fun p hp => absurd hp (by simp))
  have hfr : X.A.frames = some (X.env :: X.outer) := by rw [I2.ok.frames, hs]
  show wpAny _ X.A (noteFrame (.ref a) ce) _ _ s'
  rw [noteFrame_env _ hce]
  rw [hs] at sky
  have fin : ∀ h1, HandSPX.HeldZ B2 (X.env :: X.outer) a (L2N.Zn cls2 d2) X.env.locals h1 → s'.heap.UpToSlots h1 → CompFails (model X.prog X.w) X.A X.xe ce (.ref a) { s' with heap := h1 } := by
    intro h1 held up1
    have hn1 : h1.Ns ce.locals mC := hnC'.upToSlots up1
    refine ⟨mC, hn1, fun h2 m2 hn2 hsb => ?_⟩
    have hsb : Heap.SameBut ce.locals h1 h2 := hsb
    obtain ⟨B3, b1, b2⟩ := restrict B2 fun b => decide (b ≠ ce.locals)
    obtain ⟨G, g1, g2⟩ := restrict sI.heap fun b => decide (b ≠ ce.locals)
    have gB : ∀ b, b ≠ ce.locals → B3.get? b = B2.get? b := fun b hb => b1 b (decide_eq_true hb)
    have gG : ∀ b, b ≠ ce.locals → G.get? b = sI.heap.get? b := fun b hb => g1 b (decide_eq_true hb)
    have oB : ∀ b o, B3.get? b = some o → b ≠ ce.locals := fun b o e z => by rw [z, b2 _ (by simp)] at e; cases e
    have oG : ∀ b o, G.get? b = some o → b ≠ ce.locals := fun b o e z => by rw [z, g2 _ (by simp)] at e; cases e
    have lessB : ∀ b, B2.get? b = none → B3.get? b = none := fun b e => by
      cases q : B3.get? b with
      | none => rfl
      | some o => rw [gB b (oB b o q), e] at q; cases q
    obtain ⟨k1, k2, k3, oe, vs, T, oT, ts, he, hz, hd, h11, hnT, hTe, hT, hdT, h33⟩ := held
    obtain ⟨oL, esL, epL, goL, hdL, _⟩ := id hn1
    have neF : ∀ {b : Addr} {o : Obj} {fs : Array Value}, h1.get? b = some o → o.data = .fields fs → b ≠ ce.locals := fun {b o fs} e dd z => by
      rw [z, goL] at e
      cases e
      rw [hdL] at dd
      cases dd
    have held3 : HandSPX.HeldZ B3 (X.env :: X.outer) a (L2N.Zn cls2 d2) X.env.locals h2 :=
      ⟨fun b o e => by
        have hb := oB b o e
        rw [gB b hb] at e
        exact (hsb.2 b hb).trans (k1 b o e), lessB _ k2, frames_less lessB (Heap.FunFrames.sameBut hsb hn2 k3), oe, vs, T, oT, ts, (hsb.2 _ (neF he hd)).trans he, hz, hd, h11, lessB _ hnT, hTe, (hsb.2 _ (neF hT hdT)).trans hT, hdT, h33⟩
    unfold PySem.passOn
    refine wpAny_bind (wpAny_field ((hsb.2 _ (neF he hd)).trans he) hd h11 ?_)
    rw [if_neg (show ¬ ((Value.ref T == Value.none) = true) from by simp)]
    rw [hce, hf]
    have I5 : Inv X [] σ2 H2 { sI with heap := G } := I2'.turned (t' := sI.toks) (it := ce.locals) (fun b o hb e => (gG b hb).trans e) nC2 cL cO cC fun p hp => cP p (by
      rw [List.append_nil] at hp
      exact List.mem_append_left _ hp)
    have last : wpAny (model X.prog X.w) X.A (setFlight (.ref a) (some X.env.locals)) (fun _ s4 => wpAny (model X.prog X.w) X.A (throw (.ref a) : Sem Value) (fun _ _ => False) X.xe s4) X.xe { s' with heap := h2 } := by
      refine HandSPX.setFlight_onZ (s := { s' with heap := h2 }) held3 fun h4 held4 up4 => wpAny_throw (tk _ _ ?_)
      refine ⟨a, B3, { sI with heap := G }, [], σ2, H2, cls2, d2, rfl, I5, fun b o e hb => ?_, fun b o e hnf => ?_, .inr (.inr (by rw [hs]; exact held4)), na2, os2, ag2, w2⟩
      · have z := oG b o e
        rw [gB b z]
        rw [gG b z] at e
        exact nb b o e hb
      · have z := oG b o e
        have e : G.get? b = some o := e
        rw [gG b z] at e
        obtain ⟨sl1, e1⟩ := up b o e hnf
        obtain ⟨sl2, e2⟩ := up1 b _ e1 hnf
        obtain ⟨sl3, e3⟩ := up4 b _ ((hsb.2 b z).trans e2) hnf
        exact ⟨sl3, e3⟩
    first
      | exact wpAny_bind (wpAny_pure (wpAny_bind last))
      | exact wpAny_bind last
  rcases sky with ⟨q1, q2, q3, oe, vs, q4, q5, q6, q7⟩ | fl | hh
  · exact PXN.look_newZ L2N.Zn.steady hfr q3 hf q4 q1 q2 q6 q7 q5 fin
  · exact PXN.looks_onZ L2N.Zn.steady hfr hf fl fin
  · exact HandSPX.againZ hf hh.2.2.2 (fin s'.heap hh (Heap.UpToSlots.refl _))
end
/-- the comprehension's loop between two turns, m bounds the turns to come -/
def LcAt (Y : Cx) (σ : L2.St) (fp : List Addr) (tn : Nat → Heap → Prop) (W : Nat → Nat → Hp → Prop) (m : Nat) (s : Shared) : Prop := ∃ i H, Inv Y [] σ H s ∧ tn i s.heap ∧ (∀ b ∈ fp, H b = none) ∧ W i m H
section
variable {X : Cx} {WB : XK} {elt tg iter : Expr} {ifs : List Expr} {scope : Scope} {own : List (Str × Nat)} {pos : Pos} {g : TG} {tt : TT} {te : TE} {s3 : Shared} {H3 : Hp} {ce : Env} {fp : List Addr}
/-- the walk's own records are the block's to change -/
theorem blk_fp {σ : L2.St} {H : Hp} {s : Shared} (I : Inv (X.blk s3 H3 scope ce fp) [] σ H s) (free : ∀ b ∈ fp, H b = none) (b : Addr) (m : b ∈ fp) : FpOk (X.blk s3 H3 scope ce fp) [] H b :=
  have own := I.ok.exf b m
  ⟨free b m, own.1, I.ok.exfs b m, .inl m, own.2, fun p hp => nomatch (show p ∈ ([] : List (Addr × Obj)) from hp)⟩
/-- a turn's end: the records of the walk stand as they stood -/
theorem lc_next {it : Addr} {tn : Nat → Heap → Prop} {J : It} {W : Nat → Nat → Hp → Prop} {σ σ8 : L2.St} {H : Hp} {s7 s : Shared} {i n : Nat} {vs : List Nat} {Nx : Hp → Prop} (T : Turn X.prog X.w X.K tg J fp it tn) (st : tn (i + 1) s7.heap)
    (same : wipe σ8 vs = wipe σ vs) (less : ∀ H', Nx H' → ∃ m', m' < n ∧ W (i + 1) m' H') (I : Inv (X.blk s3 H3 scope ce fp) ([] ++ pinsAt fp s7.heap) σ8 H s) (nx : Nx H) : ∃ m, m < n ∧ LcAt (X.blk s3 H3 scope ce fp) (wipe σ vs) fp tn W m s := by
  have still : ∀ b ∈ fp, ∀ o, s7.heap.get? b = some o → s.heap.get? b = some o ∧ H b = none := fun b m o e =>
    have z := I.pin (b, o) (List.mem_append_right _ (List.mem_append_right _ (mem_pinsAt m e)))
    ⟨z.1, z.2.1⟩
  obtain ⟨m', lt, w⟩ := less H nx
  have J : Inv (X.blk s3 H3 scope ce fp) [] (wipe σ vs) H s := (I.unpinned (pins := [])).weak (by rw [← same, wipe_length]) fun j v e => (wipe_some (same ▸ e)).1
  exact ⟨m', lt, i + 1, H, J, T.keep _ _ _ st fun b m o e => (still b m o e).1, fun b m => (T.obj _ _ st b m).elim fun o e => (still b m o e.1).2, w⟩
theorem lc_loop {pins : List (Addr × Obj)} {σ : L2.St} {Q : VK} {it D : Addr} {tn : Nat → Heap → Prop} {J : It} {W : Nat → Nat → Hp → Prop} {m0 : Nat} {s4 : Shared} {vs : List Nat} (hc : X.calm = true) (hst : X.stack = X.env :: X.outer) (hfm : X.env.frame = some X.env.locals)
    (tk : L2N.Takes X (fun cls d _ H => WB cls d H)) (T : Turn X.prog X.w X.K tg J fp it tn) (cF : ce.frame = X.env.frame) (cL : s3.heap.objs.size ≤ ce.locals) (I3 : Inv X pins σ H3 s3) (f3 : ∀ b ∈ fp, FpOk X pins H3 b)
    (pg : PG (X.blk s3 H3 scope ce fp) tg g) (pt : PTs (X.blk s3 H3 scope ce fp) ifs tt) (pe : PE (blkX X s3 H3 scope ce fp WB) elt te)
    (turn : ∀ i m H, W i m H → (J.stop i H ∧ Q (.ref D) H) ∨ (J.go i H ∧ ∃ Nx : Hp → Prop, (∀ H', Nx H' → ∃ m', m' < m ∧ W (i + 1) m' H') ∧ ∀ x H', J.yld i H x H' → g x (wipe σ vs) H' fun σ2 H2 => wipe σ2 vs = wipe σ vs ∧ tt σ2 H2 fun b H5 =>
      if b = true then te σ2 H5 fun y H6 => ∃ acc, H6 D = some (.lst acc) ∧ acc.length < sizeLine ∧ Nx (upd H6 D (.lst (acc ++ [y]))) else Nx H5))
    (start : LcAt (X.blk s3 H3 scope ce fp) (wipe σ vs) fp tn W m0 s4) :
    codeAny (model X.prog X.w) X.A (.compLoop (.ListComp elt [⟨tg, iter, ifs, 0⟩] scope pos) 0 (.ref it) (.ref D) ce) (compEnds (model X.prog X.w) X.A X.xe none (EP X pins σ Q) (.ref D) ce) s4 := by
  refine compLoop_any (LcAt (X.blk s3 H3 scope ce fp) (wipe σ vs) fp tn W) ?_ m0 start
  rintro n s5 ⟨i, H5, I5, st5, free5, w5⟩
  rcases turn i n H5 w5 with ⟨stop, last⟩ | ⟨go, Nx, less, step⟩
  · refine thnF (T.done (X.blk s3 H3 scope ce fp) rfl rfl rfl hc i [] s5 _ H5 (fun _ _ => False) I5 (blk_fp I5 free5) st5 stop) ?_
    rintro _ s6 ⟨rfl, I6⟩
    have back : Inv X pins σ H5 s6 := I3.call' (ch := fp) I6.os I6.base I6.hok I6.bare fun b m => have z := (f3 b m).2; ⟨z.2.2.1, z.1, z.2.2.2.1, z.2.2.2.2⟩
    obtain ⟨names, hn, _⟩ := I6.loc
    have fc := I3.fpOk cL (show H5 ce.locals = none from I6.free)
    exact ⟨names, hn, fun h'' sb => ⟨.ref D, H5, back.turned (t' := s6.toks) (fun b o nb e => (sb.2 b nb).trans e) fc.1 fc.2.1 fc.2.2.2.1 fc.2.2.2.2.1 fc.2.2.2.2.2, rfl, last⟩⟩
  refine thnF (T.item (X.blk s3 H3 scope ce fp) rfl rfl rfl hc i [] s5 _ H5 (fun _ _ => False) I5 (blk_fp I5 free5) st5 go) ?_
  rintro _ s6 ⟨u, rfl, let_go⟩
  refine thnF let_go ?_
  rintro _ s7 ⟨x, H7, I7, rx, yx, st7, free7⟩
  have pinned := I7.pinned (blk_fp I7 free7) (T.obj _ _ st7)
  refine thnF (pg.run _ s7 _ H7 x u _ pinned rx (step x H7 yx)) ?_
  rintro _ s8 ⟨σ8, H8, I8, same, q8⟩
  refine thnF (pt.run _ s8 σ8 H8 _ I8 q8) ?_
  rintro b s9 ⟨H9, I9, q9⟩
  rcases b with _ | _
  · exact lc_next T st7 same less I9 (by simpa using q9)
  · have run := pe.run _ s9 σ8 H9 _ (I9.wish _) (by simpa using q9)
    refine wpAny_mono run ?_ fun e s10 x => blk_out hst hfm tk cF I3 f3 cL x
    rintro z s10 ⟨y, H10, I10, ry, acc, hD, short, nx⟩
    exact app_ok (X := X.blk s3 H3 scope ce fp) I10.unwish hD short ry fun s11 I11 => lc_next T st7 same less I11 nx
theorem pe_lcX {wi : TI} (hc : X.calm = true) (hst : X.stack = X.env :: X.outer) (hfm : X.env.frame = some X.env.locals)
    (tk : L2N.Takes X (fun cls d _ H => WB cls d H)) (hN : X.N.Nodup) (hi : PI X tg iter wi) (ok : BlkOk X.N X.env.scope scope own)
    (hg : ∀ (s : Shared) (H : Hp) (C : Addr) (cl : List (Str × Addr)) (fp : List Addr), PG (X.blk s H scope (compEnvC scope cl C X.env) fp) tg g)
    (ht : ∀ (s : Shared) (H : Hp) (C : Addr) (cl : List (Str × Addr)) (fp : List Addr), PTs (X.blk s H scope (compEnvC scope cl C X.env) fp) ifs tt)
    (he : ∀ (s : Shared) (H : Hp) (C : Addr) (cl : List (Str × Addr)) (fp : List Addr), PE (blkX X s H scope (compEnvC scope cl C X.env) fp WB) elt te)
    (hs : ∀ x, foldedSetIterable iter X.env x = pure x := by intro _; rfl) :
    PE X (.ListComp elt [⟨tg, iter, ifs, 0⟩] scope pos) (tLc wi g tt te (own.map (·.2))) := by
  constructor
  intro pins s σ H Q I h
  have cells : ∀ y ∈ scope.names, y.2 = .free → ∃ c, X.env.cells.lookup y.1 = some c := fun y m e => I.ok.has _ (ok.free y m e)
  rw [eval_ListComp]
  refine comprehension_at (use := none) rfl hs (closure_ok cells) ok.kind (fun y m e => (ok.uniq y m).trans (congrArg some e)) (wpAny_mono (hi.run pins s σ H _ I h) ?_ fun _ _ z => z)
  intro _ s1 walk
  refine wpAny_mono walk ?_ fun _ _ z => z
  rintro _ s2 ⟨it, fp, tn, J, H2, rfl, I2, T, st2, f2, q⟩
  -- the new list stands at the heap's end
  have fresh : H2 s2.heap.objs.size = none := I2.hok.fresh (Nat.le_refl _)
  obtain ⟨W, ⟨m0, w0⟩, turn⟩ := q _ fresh
  have lst := Heap.get?_push_size s2.heap (o := { cls := .type "list", data := .seq ([] : List Value).toArray }) rfl
  have up : s2.heap.StaysIn (s2.heap.push { cls := .type "list", data := .seq ([] : List Value).toArray }) := fun b o e => Heap.get?_push_of_some _ e
  have I3 : Inv X pins σ (upd H2 s2.heap.objs.size (.lst [])) { s2 with heap := s2.heap.push { cls := .type "list", data := .seq ([] : List Value).toArray } } := I2.laid (t' := s2.toks) up (Nat.le_refl _) ⟨Nat.zero_le _, [], 0, .nil, lst⟩
  have f3 : ∀ b ∈ fp, FpOk X pins (upd H2 s2.heap.objs.size (.lst [])) b ∧ b < (s2.heap.push { cls := .type "list", data := .seq ([] : List Value).toArray }).objs.size := fun b m => by
    obtain ⟨o, e, _⟩ := T.obj _ _ st2 b m
    have fb := f2 b m
    exact ⟨⟨(upd_ne (Nat.ne_of_lt (Heap.lt_size e))).trans fb.1, fb.2⟩, Heap.lt_size (up b o e)⟩
  have st3 := T.keep _ _ _ st2 fun b _ o e => up b o e
  have I4 := block_start I3 ok hN f3
  have st4 := T.keep _ _ (pushCells ((s2.heap.push { cls := .type "list", data := .seq ([] : List Value).toArray }).push { cls := .type "dict", data := .dict #[] }) scope.names) st3 fun b _ o e => pushCells_keeps _ _ _ _ (Heap.get?_push_of_some _ e)
  refine wpAny_newObj_type (newEnv_comp ?_) (show 0 ≤ sizeLine by decide)
  have loop := lc_loop (iter := iter) (pos := pos) (scope := scope) (ce := compEnvC scope (cellsFrom ((s2.heap.push { cls := .type "list", data := .seq ([] : List Value).toArray }).objs.size + 1) scope.names (cloFrom X.env.cells scope.names [])) (s2.heap.push { cls := .type "list", data := .seq ([] : List Value).toArray }).objs.size X.env) (s4 := { s2 with heap := pushCells ((s2.heap.push { cls := .type "list", data := .seq ([] : List Value).toArray }).push { cls := .type "dict", data := .dict #[] }) scope.names }) hc hst hfm tk T rfl (Nat.le_refl _) I3 (fun b m => (f3 b m).1) (hg ..) (ht ..) (he ..) turn ⟨0, _, I4, st4, fun b m => (f3 b m).1.1, w0⟩
  exact codeAny_compStart_list loop (T.self X.A 0 _ _ _ st4 loop)
end
end Sl
set_option Elab.async false
set_option linter.all false
set_option maxRecDepth 100000
set_option maxHeartbeats 4000000
/-! An own error straight under Exception whose __init__ stores one field: made, raised (also from None in an except suite), its field read. -/
namespace PySem
namespace NapX
open PySem.W PySem.Calls PyProof.Rows PySem.HandSPX Builtin Builtin.ObjectAttr
def iA (p1 p2 : Pos) : Arguments := { posonlyargs := [], args := [{ arg := "self", annotation := none, pos := p1 }, { arg := "line", annotation := none, pos := p2 }], vararg := none, kwonlyargs := [], kw_defaults := [], kwarg := none, defaults := [] }
def iB (q1 q2 q3 q4 : Pos) : List Stmt := [.Assign [.Attribute (.Name "self" q1) "line" q2] (.Name "line" q3) q4]
def iS : Scope := { kind := .function, names := [(PySem.Str.ofString "self", .local), (PySem.Str.ofString "line", .local)], isGenerator := false, isCoroutine := false, more := [] }
/-- what the written part says of the class, at C, and of its __init__, at fI -/
structure NapTxt (K : Frag) (mg : Str → Option Value) (C fI : Addr) : Prop where
  gC : mg "NotAProgram" = some (.ref C)
  cls : ∃ nm q N bs sn sub ab col dd k0 k1 k2 k3 k5, K.lookup C = some (excClassObj nm q C N bs exTail true sn sub ab col dd k0 k1 k2 k3 k5 "Exception.__new__")
  sa : findIn K (.ref C) "__setattr__" = some (some (.builtin "object.__setattr__"))
  ga : findIn K (.ref C) "__getattribute__" = some (some (.builtin "BaseException.__getattribute__"))
  gg : findIn K (.ref C) "__getattr__" = some none
  noN : findIn K (.ref C) "line" = some none
  iC : findIn K (.ref C) "__init__" = some (some (.ref fI))
  tC : typeIn K (.ref fI) = some (.type "function")
  kC : keepIn K (.ref C) = true
  exC : subIn K (.ref C) (.type "BaseException") = some true
  tyC : typeIn K (.ref C) = some (.type "type")
  hdC : hasDictIn K C = true
  te : exmOne K (.ref C) (.ref C) = some true
  fn : ∃ (oc : Value) (od : Option Addr) (doc pm : Value) (an : Option Addr) (cdv ct : Value) (osl : Array (Option Value)) (p1 p2 q1 q2 q3 q4 : Pos),
    K.lookup fI = some ⟨oc, od, .func (fnOf "__init__" "NotAProgram.__init__" (iA p1 p2) (iB q1 q2 q3 q4) iS .none .none doc pm an cdv ct), osl⟩ ∧ codeIn K cdv "NotAProgram.__init__" = true
theorem one_sz (v : Value) : [v].length ≤ sizeLine := by
  rw [sizeLine_eq]
  exact (by decide : 1 ≤ 16777216)
theorem ldN {M : Model} {s : Shared} {name : Str} {scope : Scope} {L a : Addr} {cd : Value} {m : Str → Option Value} {x : Str} {pos : Pos} {v : Value} {Q : Value → Shared → Prop} {A : Around} {E : Value → Shared → Prop} (hn : s.heap.Ns L m) (hv : m x = some v) (h : Q v s)
    (hk : scope.kind = .function := by rfl) (hl : (envOfC name scope L a cd).kindOf x = some .local := by rfl) (hd : (x == ("__debug__" : Str)) = false := by decide) :
    wpAny M A (eval (.Name x pos) (envOfC name scope L a cd)) Q E s := wpAny_Name (wpAny_loadName_local hk hl hn hv h) hd
/-- what a class's row of bases must let through -/
structure MroOk (l : List Value) : Prop where
  ob : l.contains (.type "object") = true
  ne : l.isEmpty = false
  ps : ∀ self, refuseLoop self "__setattr__" l = pure ()
theorem mro_one (C : Addr) : MroOk (.ref C :: exTail) :=
  ⟨by rw [List.contains_cons]; rw [show (exTail.contains (.type "object")) = true from by decide +kernel, Bool.or_true], rfl, fun self => by rw [refuseLoop_ref]; exact F.store_Exception.passes self⟩
theorem mro_two (C B : Addr) : MroOk (.ref C :: .ref B :: exTail) :=
  ⟨by rw [List.contains_cons, List.contains_cons]; rw [show (exTail.contains (.type "object")) = true from by decide +kernel, Bool.or_true, Bool.or_true], rfl, fun self => by rw [refuseLoop_ref, refuseLoop_ref]; exact F.store_Exception.passes self⟩
section
variable {prog : Program} {w : World} {A : Around} {E : Value → Shared → Prop} {R : Result → Shared → Prop} {hp : Heap} {g : Array GenState} {d : Drawn} {t : Nat} {os : OsState}
/-- what every store goes through: the slot's look, then the store in the own dict -/
theorem exc_to {K : W.Frag} {name : Str} {tk : Tok} {v : Value} {x C : Addr} {ox : Obj} {od : Option Obj} {cd : ClassData} (X : K.In hp) (I : W.InstAt hp x ox C od) (hcd : W.clsIn K C = some cd) (hm : MroOk cd.mro) (ha : W.findIn K (.ref C) name = some none)
    (h : wpAny (model prog w) A.in1 (storeInOwnDict (.ref x) (.ref C) (.str name tk) name v false) (fun fin s' => match fin with | .done f => R (.ok f) s' | .again c' => c'.quiet = true ∧ codeAny (model prog w) A c' R s') (fun e s' => R (.error e) s') ⟨hp, g, d, t, os⟩) :
    codeAny (model prog w) A (.call (.builtin "object.__setattr__") ⟨[.ref x, .str name tk, v], []⟩) R ⟨hp, g, d, t, os⟩ := by
  have kind := I.type (M := model prog w)
  have bases : W.Looks (model prog w) hp (mroOf (.ref C)) cd.mro := (W.looks_clsIn X hcd).andThen .now
  have taken := W.looks_findIn (M := model prog w) X ha
  have under : W.Looks (model prog w) hp (isInstance (.ref x) (.type "object")) true := kind.andThen (W.looks_mroIn X (by simp only [W.mroIn, hcd, Option.bind_some, hm.ne, hm.ob]; rfl))
  apply codeAny_call_builtin F.store_object.slot.plain F.store_object.entry
  refine W.check_slot (s := ⟨hp, g, d, t, os⟩) (i := "object.__setattr__") (owner := "object") (n := "__setattr__") (self := .ref x) (rest := [.str name tk, v]) (kw := []) F.store_object.kind F.store_object.split under (F.store_object.args (.ref x) (.str name tk) v) ?_
  rw [W.osa_eq, refuse_eq]
  have nobody : W.Looks (model prog w) hp (storeTaker? none) none := .now
  refine wpAny_bind (wpAny_bind (kind.at (wpAny_bind (bases.at ?_))))
  rw [hm.ps]
  exact wpAny_pure (wpAny_bind (kind.at (wpAny_bind (taken.at (wpAny_bind (nobody.at h))))))
/-- self.name = v, the first field -/
theorem exc_first {K : W.Frag} {name : Str} {tk : Tok} {v : Value} {x C : Addr} {fv : Array Value} {cd : ClassData} (X : K.In hp) (hx : hp.get? x = some { cls := .ref C, data := .fields fv }) (hcd : W.clsIn K C = some cd) (hm : MroOk cd.mro) (hh : cd.hasDict = true) (ha : W.findIn K (.ref C) name = some none)
    (hq : ∀ h' tk' dx, (∀ b o, b ≠ x → hp.get? b = some o → h'.get? b = some o) → hp.objs.size ≤ dx → dx ≠ x → h'.get? x = some { cls := .ref C, dict := some dx, data := .fields fv } → h'.Ns1 dx (fun y => if y = name then some v else none) → R (.ok (.ret .none)) ⟨h', g, d, tk', os⟩) :
    codeAny (model prog w) A (.call (.builtin "object.__setattr__") ⟨[.ref x, .str name tk, v], []⟩) R ⟨hp, g, d, t, os⟩ := by
  have ne : hp.objs.size ≠ x := Nat.ne_of_gt (Heap.lt_size hx)
  have looks := W.looks_clsIn (M := model prog w) X hcd
  refine exc_to X (od := none) ⟨hx, rfl, rfl, trivial⟩ hcd hm ha ?_
  rcases cd with ⟨nm, bs, mro, ns, qn, dicts, sn, sb, ab, col, del⟩
  obtain rfl : dicts = true := hh
  unfold storeInOwnDict ownDictForStores
  repeat
    first
    | with_reducible refine wpAny_loadPart_at hx ?_
    | with_reducible refine looks.at ?_
    | with_reducible refine store_in_new ?_ ?_
    | wp_step
  · -- the new dict is empty
    have there : (hp.push { cls := .type "dict", data := .dict #[] }).get? hp.objs.size = some { cls := .type "dict", data := .dict #[] } := Heap.get?_push_at rfl rfl
    exact ⟨_, #[], _, (Heap.get?_update_ne _ _ _ _ ne).trans there, rfl, fun _ m => (Array.not_mem_empty _ m).elim, fun _ => rfl⟩
  · intro h' tk' named same
    have other : ∀ b o, hp.get? b = some o → h'.get? b = ((hp.push { cls := .type "dict", data := .dict #[] }).update x fun o => { o with dict := some hp.objs.size }).get? b := fun b o e => same.2 b (Nat.ne_of_lt (Heap.lt_size e))
    exact hq h' tk' hp.objs.size (fun b o nb e => (other b o e).trans ((Heap.get?_update_ne _ _ _ _ nb).trans (Heap.get?_push_of_some _ e))) (Nat.le_refl _) ne ((other x _ hx).trans (Heap.get?_update_self _ (Heap.get?_push_of_some _ hx) rfl)) named
/-- the same for a class straight under Exception -/
theorem nap_osa {K : W.Frag} {name : Str} {tk : Tok} {v : Value} {x C : Addr} {fv : Array Value} {cd : ClassData} (X : K.In hp) (hx : hp.get? x = some { cls := .ref C, data := .fields fv }) (hcd : W.clsIn K C = some cd) (hm : cd.mro = .ref C :: exTail) (hh : cd.hasDict = true) (ha : W.findIn K (.ref C) name = some none)
    (hq : ∀ h' tk' dx, (∀ b o, b ≠ x → hp.get? b = some o → h'.get? b = some o) → hp.objs.size ≤ dx → dx ≠ x → h'.get? x = some { cls := .ref C, dict := some dx, data := .fields fv } → h'.Ns1 dx (fun y => if y = name then some v else none) → R (.ok (.ret .none)) ⟨h', g, d, tk', os⟩) :
    codeAny (model prog w) A (.call (.builtin "object.__setattr__") ⟨[.ref x, .str name tk, v], []⟩) R ⟨hp, g, d, t, os⟩ := exc_first X hx hcd (hm.symm ▸ mro_one C) hh ha hq
end
/-- what __init__ leaves of a fresh exception at x -/
structure InitEnd (h h' : Heap) (x C dx t1 : Addr) (v : Value) : Prop where
  keep : ∀ b o, b ≠ x → h.get? b = some o → h'.get? b = some o
  obj : h'.get? x = some { cls := .ref C, dict := some dx, data := .fields #[.ref t1, .none, .none, .none, .bool false, .none] }
  dbig : h.objs.size ≤ dx
  dne : dx ≠ x
  ns : h'.Ns1 dx (fun y => if y = "line" then some v else none)
/-- one is made -/
structure OwnMade (h h' : Heap) (e C d : Addr) (v : Value) : Prop where
  keep : ∀ b o, h.get? b = some o → h'.get? b = some o
  new : h.objs.size ≤ e
  obj : ∃ t1 : Addr, h'.get? e = some { cls := .ref C, dict := some d, data := .fields #[.ref t1, .none, .none, .none, .bool false, .none] }
  dbig : h.objs.size ≤ d
  dne : d ≠ e
  ns : h'.Ns1 d (fun y => if y = "line" then some v else none)
section
variable {prog : Program} {w : World} {A : Around} {E : Value → Shared → Prop} {R : Result → Shared → Prop} {s : Shared} {K : Frag} {mg : Str → Option Value} {C fI : Addr}
theorem nap_init (T : NapTxt K mg C fI) {x t0 : Addr} {v : Value} (X : K.In s.heap) (hlim : s.heap.NoLimit) (hx : s.heap.get? x = some (excO C t0)) (hroom : A.depth < recursionLimit)
    (hq : ∀ h' tk dx, InitEnd s.heap h' x C dx t0 v → R (.ok (.ret .none)) { s with heap := h', toks := tk }) :
    codeAny (model prog w) A (.call (.ref fI) ⟨[.ref x, v], []⟩) R s := by
  obtain ⟨oc, od, doc, pm, an, cdv, ct, osl, p1, p2, q1, q2, q3, q4, ho, hcd⟩ := T.fn
  obtain ⟨nm, q, N, bs, sn, sub, ab, col, dd, k0, k1, k2, k3, k5, hC⟩ := T.cls
  have hcl : clsIn K C = some { name := nm, bases := bs, mro := .ref C :: exTail, ns := N, qualname := q, hasDict := true, slotNames := sn, subclasses := sub, abstract := ab, collection := col, hasDel := false } := by unfold clsIn; rw [hC] <;> rfl
  refine Att.call_fn (binds := [("self", .ref x), ("line", v)]) X hlim ho hcd hroom (BindsTo.of_eq (by first | rfl | with_unfolding_all rfl)) (by first | rfl | decide | with_unfolding_all rfl) (fun s₁ IC => ?_) rfl rfl rfl
  obtain ⟨h₁, tk₁, rfl⟩ := IC.toInCall.same
  have k : ∀ b o, s.heap.get? b = some o → h₁.get? b = some o := IC.toInCall.keep
  have hn := IC.toInCall.ns
  have X₁ : K.In h₁ := X.keeps k
  have hx₁ := k _ _ hx
  show wpAny _ _ (execs _ _) _ _ _
  refine wpAny_execs_cons (plainObj_wpAny_Assign_Attribute ?_)
  refine ldN (v := v) hn (by first | rfl | with_unfolding_all rfl | kernel_rfl) (ldN (v := .ref x) hn (by first | rfl | with_unfolding_all rfl | kernel_rfl) ?_)
  refine set_plain X₁ (ox := excO C t0) (od := none) ⟨hx₁, rfl, rfl, trivial⟩ T.sa ?_
  refine nap_osa X₁ hx₁ hcl rfl rfl T.noN (fun h₃ tk₃ dx k₃ dn dne hx₃ hn₃ => ?_)
  show wpAny _ _ (execs _ _) _ _ _
  have z : s.heap.objs.size < h₁.objs.size := hn.lt
  exact wpAny_execs_nil (hq h₃ tk₃ dx ⟨fun b o hb e => k₃ b o hb (k b o e), hx₃, Nat.le_of_lt (Nat.lt_of_lt_of_le z dn), dne, hn₃⟩)
theorem nap_made (T : NapTxt K mg C fI) {v : Value} (X : K.In s.heap) (hlim : s.heap.NoLimit) (hroom : A.depth + 1 < recursionLimit)
    (hq : ∀ h' tk e d, OwnMade s.heap h' e C d v → R (.ok (.ret (.ref e))) { s with heap := h', toks := tk }) :
    codeAny (model prog w) A (.call (.ref C) ⟨[v], []⟩) R s := by
  obtain ⟨nm, q, N, bs, sn, sub, ab, col, dd, k0, k1, k2, k3, k5, hC⟩ := T.cls
  obtain ⟨hp, g, dr, tk, os⟩ := s
  have k : ∀ b o, hp.get? b = some o → ((hp.push (kdv_tup [v])).push (excO C hp.objs.size)).get? b = some o := fun b o e => Heap.get?_push_of_some _ (Heap.get?_push_of_some _ e)
  have hget : ((hp.push (kdv_tup [v])).push (excO C hp.objs.size)).get? (hp.objs.size + 1) = some (excO C hp.objs.size) := by heap_get
  refine call_own F.excBase_Exception (fun X => rfl) (X _ _ hC) (looks_findIn X T.iC) (fun self => bind_fn X self T.tC) (one_sz v) ?_
  refine nap_init (s := ⟨(hp.push (kdv_tup [v])).push (excO C hp.objs.size), g, dr, tk, os⟩) T (X.keeps k) (hlim.keeps k) hget ?_ fun h' tk' dx ⟨k', hx, dn, dne, hns⟩ => ?_
  · show A.depth + 1 < recursionLimit
    exact hroom
  · have old : ∀ b o, hp.get? b = some o → h'.get? b = some o := fun b o e => k' b o (Nat.ne_of_lt (Nat.lt_succ_of_lt (Heap.lt_size e))) (k b o e)
    have z : hp.objs.size + 1 + 1 ≤ dx := by
      first
        | (simpa only [Heap.size_push] using dn)
        | exact dn
        | (have q := dn; rw [Heap.size_push, Heap.size_push] at q; exact q)
    exact ⟨rfl, hq h' tk' (hp.objs.size + 1) dx ⟨old, Nat.le_succ _, ⟨_, hx⟩, Nat.le_trans (Nat.le_trans (Nat.le_succ _) (Nat.le_succ _)) z, dne, hns⟩⟩
end
end NapX
end PySem
namespace Sl
open PySem PySem.Spec PyProof.Rows L2
theorem relO_line {v : V} {v' : Value} (r : RelV v v') (f : Str) : RelO (List.lookup f [(("line" : Str), v)]) (if f = "line" then some v' else none) := by
  by_cases hw : f = "line"
  · subst hw
    rw [if_pos rfl]
    have q : List.lookup ("line" : Str) [(("line" : Str), v)] = some v := by simp [List.lookup]
    rw [q]
    exact r
  · rw [if_neg hw]
    have qw : (f == ("line" : Str)) = false := by simpa using hw
    have q2 : List.lookup f [(("line" : Str), v)] = none := by simp [List.lookup, qw]
    rw [q2]
    trivial
section
variable {X : Cx} {C fI : Addr}
/-- NotAProgram(e) -/
def tMkNap (C : Addr) (ta : TA) : L2.St → Hp → XK → Prop := fun σ H Q => ta σ H fun vs H1 => ∃ v, vs = [v] ∧ ∀ d, H1 d = none → Q (.ref C) (some d) (upd H1 d (.xd [(("line" : Str), v)]))
/-- what is left of it: the state without the exception -/
theorem nap_left {pins : List (Addr × Obj)} {σ : L2.St} {H1 : Hp} {s1 : Shared} {h' : Heap} {tk' : Nat} {e d : Addr} {v : V} {v' : Value} (I1 : Inv X pins σ H1 s1) (rv : RelV v v') (M : PySem.NapX.OwnMade s1.heap h' e C d v') :
    ∃ sI : Shared, Inv X pins σ (upd H1 d (.xd [(("line" : Str), v)])) sI ∧ (∀ b o, sI.heap.get? b = some o → h'.get? b = some o) ∧ sI.heap.get? e = none ∧ (upd H1 d (.xd [(("line" : Str), v)])) e = none ∧ sI.os = s1.os := by
  have hns := M.ns
  obtain ⟨G', g1, g2⟩ := restrict h' fun b => decide (b ≠ e)
  have gk : ∀ b, b ≠ e → G'.get? b = h'.get? b := fun b hb => g1 b (decide_eq_true hb)
  have ge : G'.get? e = none := g2 e (by simp)
  have old : ∀ b o, s1.heap.get? b = some o → G'.get? b = some o := fun b o q => (gk b (Nat.ne_of_lt (Nat.lt_of_lt_of_le (Heap.lt_size q) M.new))).trans (M.keep b o q)
  have ob : ObjOk X.prog X.w (upd H1 d (.xd [(("line" : Str), v)])) G' d (.xd [(("line" : Str), v)]) := ⟨_, hns.at (fun o q => (gk d M.dne).trans q), fun f => relO_line rv f⟩
  refine ⟨{ s1 with heap := G', toks := tk' }, I1.laid (t' := tk') old M.dbig ob, fun b o q => ?_, ge, ?_, rfl⟩
  · by_cases hb : b = e
    · have q' : G'.get? b = some o := q
      rw [hb, ge] at q'
      cases q'
    · exact (gk b hb).symm.trans q
  · rw [upd_ne (Ne.symm M.dne)]
    exact I1.hok.fresh M.new
theorem nap_call {a : Expr} {ta : TA} {p pos : Pos} (T : PySem.NapX.NapTxt X.K X.mg C fI) (hr : X.A.depth + 1 < recursionLimit) (ha : PA X [a] ta) {Q : Value → Shared → Prop} {pins : List (Addr × Obj)} {s : Shared} {σ : L2.St} {H : Hp} {QX : XK} (I : Inv X pins σ H s)
    (h : tMkNap C ta σ H QX)
    (hQ : ∀ (s1 : Shared) (H1 : Hp) (v : V) (v' : Value) (h' : Heap) (tk : Nat) (e d : Addr), Inv X pins σ H1 s1 → RelV v v' → PySem.NapX.OwnMade s1.heap h' e C d v' → (∀ d, H1 d = none → QX (.ref C) (some d) (upd H1 d (.xd [(("line" : Str), v)]))) → Q (.ref e) { s1 with heap := h', toks := tk })
    (hg : Gl X "NotAProgram") (he : starEach (a :: []) X.env = (false, eval a X.env) :: starEach [] X.env) (hpl : (backTo pos (starEach [] X.env)).any (·.1) = false) :
    wpAny (model X.prog X.w) X.A (eval (.Call (.Name "NotAProgram" p) [a] [] pos) X.env) Q X.xe s := by
  refine wpAny_Call_Name_kw (ld_glob I hg T.gC ?_)
  refine PySem.W.callWith_K (h₀ := X.base) I.ok.mod.kin T.kC (thn (ha.run pos pins s σ H _ I h) fun us s1 hh => ?_) he hpl
  obtain ⟨vs, H1, I1, r1, v, ev, q1⟩ := hh
  subst ev
  refine ⟨I1.kIn, ?_⟩
  cases r1 with
  | cons rv rn =>
    rename_i v' us'
    cases rn
    show wpAny _ _ (call (.ref C) [v']) _ _ _
    refine wpAny_call (PySem.NapX.nap_made T I1.kIn I1.nolimit hr fun h' tk' e d M => ?_)
    exact hQ s1 H1 v v' h' tk' e d I1 rv M q1
theorem pmk_nap {a : Expr} {ta : TA} {p pos : Pos} {k : Nat} (T : PySem.NapX.NapTxt X.K X.mg C fI) (hr : Room (k + 1) X.A) (ha : PA X [a] ta) (hg : Gl X "NotAProgram" := by rfl)
    (he : starEach (a :: []) X.env = (false, eval a X.env) :: starEach [] X.env := by rfl) (hpl : (backTo pos (starEach [] X.env)).any (·.1) = false := by rfl) :
    PMk X (.Call (.Name "NotAProgram" p) [a] [] pos) (tMkNap C ta) := by
  intro pins s σ H Q I h
  refine nap_call T (by have := hr.dp; omega) ha I h (fun s1 H1 v v' h' tk e d I1 rv M q => ?_) hg he hpl
  obtain ⟨sI, J, k1, k2, k3, k4⟩ := nap_left (tk' := tk) I1 rv M
  obtain ⟨t1, hoe⟩ := M.obj
  exact ⟨e, _, _, sI, _, .ref C, some d, rfl, J, k1, k2, hoe, ⟨rfl, rfl⟩, rfl, rfl, k3, k4.symm, I1.bare, raises_own T.exC T.tyC, q d (I1.hok.fresh M.dbig)⟩
/-- the same while an exception is handled: for raise .. from None -/
theorem pmk5_nap {a : Expr} {ta : TA} {p pos : Pos} (T : PySem.NapX.NapTxt X.K X.mg C fI) (hr : X.A.depth + 1 < recursionLimit) (ha : PA X [a] ta) (hg : Gl X "NotAProgram" := by rfl)
    (he : starEach (a :: []) X.env = (false, eval a X.env) :: starEach [] X.env := by rfl) (hpl : (backTo pos (starEach [] X.env)).any (·.1) = false := by rfl) :
    L2H.PMk5 X (.Call (.Name "NotAProgram" p) [a] [] pos) (tMkNap C ta) := by
  intro pins s σ H Q I h
  refine nap_call T hr ha I h (fun s1 H1 v v' h' tk e d I1 rv M q => ?_) hg he hpl
  obtain ⟨sI, J, k1, k2, k3, k4⟩ := nap_left (tk' := tk) I1 rv M
  obtain ⟨t1, hoe⟩ := M.obj
  refine ⟨⟨e, _, _, sI, _, .ref C, some d, rfl, J, k1, k2, hoe, ⟨rfl, rfl, fun vs q => by cases q; rfl⟩, rfl, rfl, k3, k4.symm, I1.bare, raises_own T.exC T.tyC, q d (I1.hok.fresh M.dbig)⟩, fun a' oe vs ea hg hd => ?_⟩
  cases ea
  have hg : h'.get? e = some oe := hg
  rw [hoe] at hg
  cases hg
  cases hd
  show (4 : Nat) < 6
  decide
/-- a field of an error that stands in the heap, read -/
theorem exc_field {X : Cx} {pins : List (Addr × Obj)} {σ : L2.St} {H : Hp} {s : Shared} {Q : VK} {E : Value → Shared → Prop} {f : Str} {a C dd : Addr} {oe : Obj} {fs : List (Str × V)} {v : V} {b : Bool} (I : Inv X pins σ H s) (there : s.heap.get? a = some oe) (hz : Zc (.ref C) (some dd) oe) (hf : ∃ vs, oe.data = .fields vs)
    (ea : H dd = some (.xd fs)) (named : fs.lookup f = some v) (ga : PySem.W.findIn X.K (.ref C) "__getattribute__" = some (some (.builtin "BaseException.__getattribute__"))) (gg : PySem.W.findIn X.K (.ref C) "__getattr__" = some none) (sub : PySem.W.subIn X.K (.ref C) (.type "BaseException") = some true)
    (hd : PySem.W.hasDictIn X.K C = true) (no : PySem.W.findIn X.K (.ref C) f = some none) (q : Q v H) : wpAny (model X.prog X.w) X.A (getAttr (.ref a) f b) (EP X pins σ Q) E s := by
  rcases hf with ⟨vs, fields⟩
  rcases hz with ⟨kind, dict⟩
  obtain ⟨names, ns, rel⟩ : ObjOk X.prog X.w H s.heap dd (.xd fs) := I.hok dd _ ea
  rcases lookIn_ns ns with ⟨od, at_, look⟩
  rcases RelO.some_of (v := v) (o := names f) (named ▸ rel f) with ⟨u, hu, ru⟩
  have inst : PySem.W.InstAt s.heap a oe C (some od) := ⟨there, kind, by simp only [PySem.W.notCls, fields], by rw [dict]; exact at_⟩
  exact HandSPX.exc_get I.kIn inst ga gg sub (PySem.W.findObj_own hd no rfl ((look f).trans (congrArg some hu))) (handed_of ru) ⟨v, H, I.tok _, ru, q⟩
/-- refusal.line, refusal the exception that the suite holds -/
def tLineOf (C : Addr) (a : Addr) (cls : Value) (d : Option Addr) (te : TE) : TE := fun σ H Q => te σ H fun x H1 => x = .ref a ∧ cls = .ref C ∧ ∃ (dd : Addr) (v : V), d = some dd ∧ H1 dd = some (.xd [(("line" : Str), v)]) ∧ Q v H1
theorem pe_lineOf {a : Addr} {oe : Obj} {cls : Value} {d : Option Addr} {pn : List (Addr × Obj)} {e : Expr} {te : TE} {pos : Pos} (T : PySem.NapX.NapTxt X.K X.mg C fI) (hz : Zc cls d oe) (hf : ∃ vs, oe.data = .fields vs) (he : PE (X.suite a ((a, oe) :: pn)) e te)
    (hb : attributeBase e "line" X.env (eval e X.env) = eval e X.env := by rfl) :
    PE (X.suite a ((a, oe) :: pn)) (.Attribute e "line" pos) (tLineOf C a cls d te) := by
  constructor
  intro pins s σ H Q I h
  refine attr_of hb (wpAny_mono (he.run pins s σ H _ I h) ?_ fun _ _ z => z)
  rintro _ s1 ⟨_, H1, I1, rx, rfl, rfl, dd, v, rfl, ea, q⟩
  cases rx
  obtain ⟨there, _⟩ := I1.pin (a, oe) (List.mem_append_left _ List.mem_cons_self)
  exact exc_field I1 there hz hf ea (by simp [List.lookup]) T.ga T.gg T.exC T.hdC T.noN q
end
end Sl
set_option Elab.async false
set_option linter.all false
set_option maxRecDepth 100000
set_option maxHeartbeats 4000000
namespace Sl
open PySem PySem.Spec PyProof.Rows L2
/-! ### X() of an own error class without __init__ -/
section
variable {X : Cx} {C : Addr} {bmB : List Value} {B newId initId : String}
theorem pmk_bare {x : Str} {p pos : Pos} (F : ExcBaseFacts B newId initId bmB) (q : PySem.W.excIn X.K C bmB newId = true) (gC : X.mg x = some (.ref C)) (kC : PySem.W.keepIn X.K (.ref C) = true) (r : Raises X (.ref C)) (hg : Gl X x)
    (hdb : (x == ("__debug__" : Str)) = false := by decide) : L2N.PMk X (.Call (.Name x p) [] [] pos) (fun _ H Q => Q (.ref C) none H) := by
  intro pins s σ H Q I h
  refine wpAny_Call_Name_kw (ld_glob I hg gC ?_ hdb)
  refine PySem.W.callWith_K0 I.kIn kC ?_
  obtain ⟨bm, N, nm, qn, bs, hdct, sn, sub, ab, col, dd, k0, k1, k2, k3, k5, mN, hC, hN, hni, T⟩ := exc_obj I.kIn q
  refine wpAny_call_exc_subT F T hC hN hni (fun h' e hm => ?_) (by show 0 ≤ sizeLine; exact Nat.zero_le _)
  exact L2N.mk_of I hm r h (I.hok.gone hm.new)
end
/-! ### a dict of the module's top with texts for keys, asked by any text or number -/
def KTab {β : Type} (K : PySem.W.Frag) (w : World) (d : Addr) (R : β → Value → Prop) (ps : List (Str × β)) : Prop :=
  ∃ es n, K.lookup d = some ⟨.type "dict", none, .dict es n, #[]⟩ ∧ (d == sysModules) = false ∧
    Paired (fun (e : DictEntry) (p : Str × β) => (∃ t, e.key = .str p.1 t) ∧ e.hash = PyData.keyHash w.params p.1 ∧ R p.2 e.val) es.toList ps
theorem lits_of {β : Type} {w : World} {R : β → Value → Prop} : ∀ {l : List DictEntry} {ps : List (Str × β)}, Paired (fun (e : DictEntry) (p : Str × β) => (∃ t, e.key = .str p.1 t) ∧ e.hash = PyData.keyHash w.params p.1 ∧ R p.2 e.val) l ps → PySem.W.KeysLit w.params l
  | _, _, .nil => trivial
  | _, _, .cons (b := p) ⟨⟨t, k⟩, h, _⟩ r => ⟨⟨p.1, t, k, h⟩, lits_of r⟩
theorem find_of {β : Type} {w : World} {R : β → Value → Prop} (z : Str) : ∀ {l : List DictEntry} {ps : List (Str × β)}, Paired (fun (e : DictEntry) (p : Str × β) => (∃ t, e.key = .str p.1 t) ∧ e.hash = PyData.keyHash w.params p.1 ∧ R p.2 e.val) l ps →
    match ps.lookup z with
      | some b => ∃ u, (l.find? fun e => Value.isStrOf z e.key).map (·.val) = some u ∧ R b u
      | none => (l.find? fun e => Value.isStrOf z e.key).map (·.val) = none
  | _, _, .nil => rfl
  | _, _, .cons (a := e) (b := p) ⟨⟨t, k⟩, h, q⟩ r => by
    have ih := find_of z r
    obtain ⟨n, b⟩ := p
    have k : e.key = .str n t := k
    rw [List.lookup_cons, List.find?_cons, k]
    have e1 : Value.isStrOf z (.str n t) = (z == n) := by
      by_cases c : z = n
      · subst c
        simp [Value.isStrOf]
      · have c' : ¬ n = z := fun q => c q.symm
        simp only [Value.isStrOf]
        rw [beq_eq_false_iff_ne.mpr c', beq_eq_false_iff_ne.mpr c]
    rw [e1]
    cases c : (z == n) with
    | true => exact ⟨_, rfl, q⟩
    | false => exact ih
theorem find_int {β : Type} {w : World} {R : β → Value → Prop} (n : Int) : ∀ {l : List DictEntry} {ps : List (Str × β)}, Paired (fun (e : DictEntry) (p : Str × β) => (∃ t, e.key = .str p.1 t) ∧ e.hash = PyData.keyHash w.params p.1 ∧ R p.2 e.val) l ps →
    (l.find? fun e => keyIs (Sum.inl n) e.key).map (·.val) = none
  | _, _, .nil => rfl
  | _, _, .cons (a := e) ⟨⟨t, k⟩, h, q⟩ r => by
    rw [List.find?_cons, k]
    exact find_int n r
theorem by_list {κ : Type} (P : κ → Value → Bool) (es : Array DictEntry) (k : κ) : findBy P es k = (es.toList.find? fun e => P k e.key).map (·.val) := by
  obtain ⟨l⟩ := es
  simp only [findBy, List.find?_toArray]
section
variable {X : Cx} {β : Type} {d : Addr} {R : β → Value → Prop} {ps : List (Str × β)}
theorem tab_find (T : KTab X.K X.w d R ps) (z : Str) : ∃ es n, X.K.lookup d = some ⟨.type "dict", none, .dict es n, #[]⟩ ∧ (d == sysModules) = false ∧ PySem.W.KeysLit X.w.params es.toList ∧
    match ps.lookup z with
      | some b => ∃ u, findBy Value.isStrOf es z = some u ∧ R b u
      | none => findBy Value.isStrOf es z = none := by
  obtain ⟨es, n, hl, lo, pr⟩ := T
  refine ⟨es, n, hl, lo, lits_of pr, ?_⟩
  have q := find_of z pr
  rw [by_list]
  exact q
theorem tab_some (T : KTab X.K X.w d R ps) (z : Str) : ∃ es n, X.K.lookup d = some ⟨.type "dict", none, .dict es n, #[]⟩ ∧ (d == sysModules) = false ∧ PySem.W.KeysLit X.w.params es.toList ∧ (findBy Value.isStrOf es z).isSome = (ps.lookup z).isSome := by
  obtain ⟨es, n, a, b, c, q⟩ := tab_find T z
  refine ⟨es, n, a, b, c, ?_⟩
  cases e : ps.lookup z with
  | none =>
    rw [e] at q
    have q : findBy Value.isStrOf es z = none := q
    rw [q]
    rfl
  | some v =>
    rw [e] at q
    obtain ⟨u, q, _⟩ := q
    rw [q]
    rfl
def rInT (d : Addr) (neg : Bool) (ps : List (Str × β)) : R2 := fun x y H Q => y = .ref d ∧ ((∃ z, x = .str z ∧ Q (.bl ((ps.lookup z).isSome != neg)) H) ∨ (∃ n, x = .int n ∧ Q (.bl neg) H))
theorem map_int (T : KTab X.K X.w d R ps) {pins : List (Addr × Obj)} {σ : L2.St} {H : Hp} {s : Shared} (I : Inv X pins σ H s) (n : Int) : (d == sysModules) = false ∧ ∃ es, s.heap.MapOf (mixKind X.prog X.w) d (fun k => findBy keyIs es k) ∧ findBy keyIs es (Sum.inl n) = none := by
  obtain ⟨es, m, hl, lo, pr⟩ := T
  refine ⟨lo, es, ⟨_, es, m, I.kIn _ _ hl, ⟨rfl, rfl, rfl⟩, rfl, fun e he => ?_, fun _ => rfl⟩, ?_⟩
  · obtain ⟨x, t, e1, e2⟩ := (lits_of pr).all e (Array.mem_toList_iff.mpr he)
    exact ⟨Sum.inr x, by rw [e1]; exact keyIs_str x t, e2⟩
  · rw [by_list]
    exact find_int n pr
theorem op_in_tab (T : KTab X.K X.w d R ps) : OpR X (compareOp .In) (rInT d false ps) := by
  intro pins s σ H x y v u Q I rx ry h
  obtain ⟨rfl, h⟩ := h
  cases ry
  rcases h with ⟨z, rfl, q⟩ | ⟨n, rfl, q⟩
  · obtain ⟨t, rfl⟩ := rx
    obtain ⟨es, n, hl, lo, kl, e⟩ := tab_some T z
    refine wpAny_in_of (PySem.strKind_is X.prog X.w z t) lo (PySem.W.mapOf_K (prog := X.prog) I.kIn hl kl) ?_
    rw [e]
    rw [Bool.bne_false] at q
    exact ⟨.bl (ps.lookup z).isSome, H, I.tok _, rfl, q⟩
  · obtain ⟨t, rfl⟩ := rx
    obtain ⟨lo, es, hm, e⟩ := map_int T I n
    refine wpAny_in_of (knd := mixKind X.prog X.w) (k := Sum.inl n) (keyIs_int n t) lo hm ?_
    rw [e]
    exact ⟨.bl false, H, I.tok _, rfl, q⟩
theorem op_notIn_tab (T : KTab X.K X.w d R ps) : OpR X (compareOp .NotIn) (rInT d true ps) := by
  intro pins s σ H x y v u Q I rx ry h
  obtain ⟨rfl, h⟩ := h
  cases ry
  rcases h with ⟨z, rfl, q⟩ | ⟨n, rfl, q⟩
  · obtain ⟨t, rfl⟩ := rx
    obtain ⟨es, n, hl, lo, kl, e⟩ := tab_some T z
    refine wpAny_notIn_of (PySem.strKind_is X.prog X.w z t) lo (PySem.W.mapOf_K (prog := X.prog) I.kIn hl kl) ?_
    rw [e]
    rw [Bool.bne_true] at q
    exact ⟨.bl (!(ps.lookup z).isSome), H, I.tok _, rfl, q⟩
  · obtain ⟨t, rfl⟩ := rx
    obtain ⟨lo, es, hm, e⟩ := map_int T I n
    refine wpAny_notIn_of (knd := mixKind X.prog X.w) (k := Sum.inl n) (keyIs_int n t) lo hm ?_
    rw [e]
    exact ⟨.bl true, H, I.tok _, rfl, q⟩
/-- d[z], a key that is there -/
def rIxT (d : Addr) (R : β → Value → Prop) (ps : List (Str × β)) : R2 := fun x y H Q => ∃ z b, x = .ref d ∧ y = .str z ∧ ps.lookup z = some b ∧ ∀ v u, R b u → RelV v u → Q v H
theorem ix_tab (T : KTab X.K X.w d R ps) (hR : ∀ b u, R b u → ∃ v, RelV v u) : IxR X (rIxT d R ps) := by
  intro value slice pins s σ H x y v u Q I rx ry h hs
  obtain ⟨z, b, rfl, rfl, e, q⟩ := h
  obtain rfl : v = Value.ref d := rx
  obtain ⟨t, rfl⟩ := ry
  obtain ⟨es, n, hl, lo, kl, m⟩ := tab_find T z
  rw [e] at m
  obtain ⟨u, m, r⟩ := m
  obtain ⟨v0, rv⟩ := hR b u r
  have hm := PySem.W.mapOf_K (prog := X.prog) (w := X.w) I.kIn hl kl
  exact tail_any hm.typeIs slot_dict_getitem.lookup (wpAny_getItem_of (strKind_is X.prog X.w z t) hm m ⟨v0, H, I.tok _, rv, q v0 u r rv⟩) hs
end
/-- a tuple of the module's top -/
def KTup (K : PySem.W.Frag) (xs : List V) (u : Value) : Prop := ∃ a, u = .ref a ∧ ∃ (o : Obj) (its : Array Value) (n : Nat), K.lookup a = some o ∧ o.cls = .type "tuple" ∧ o.data = .seq its n ∧ its.size ≤ sizeLine ∧ Vals xs its.toList
theorem KTup.sq {K : PySem.W.Frag} {xs : List V} {u : Value} (h : KTup K xs u) (H : Hp) : ∃ a, u = .ref a ∧ SqT K H a xs := by
  obtain ⟨a, e, q⟩ := h
  exact ⟨a, e, .inr q⟩
end Sl
set_option Elab.async false
set_option linter.all false
set_option maxRecDepth 100000
set_option maxHeartbeats 4000000
namespace Sl
open PySem PySem.Spec PyProof.Rows L2
/-! ### zip(a list, a tuple) -/
def ItzM (K : PySem.W.Frag) (a b : Addr) : It :=
  ⟨fun i H => ∃ (xs ys : List V) (x y : V), SqL K H a xs ∧ SqT K H b ys ∧ xs[i]? = some x ∧ ys[i]? = some y,
    fun i H v H' => ∃ T x y, v = .ref T ∧ H T = none ∧ H' = upd H T (.tup [x, y]) ∧ (∀ xs, SqL K H a xs → xs[i]? = some x) ∧ ∀ ys, SqT K H b ys → ys[i]? = some y,
    fun i H => ∃ xs ys : List V, SqL K H a xs ∧ SqT K H b ys ∧ i = xs.length ∧ i = ys.length⟩
/-- such a zip behind i turns -/
structure ZipAt (z TI TO i1 i2 a b : Addr) (i : Nat) (h : Heap) : Prop where
  zip : IsZip h z TI TO .none
  ins : IsTupOf2 h TI (.ref i1) (.ref i2)
  out : ∃ x y, IsTupOf2 h TO x y
  one : h.IsListIter i1 a i
  two : h.IsTupleIter i2 b i
theorem ZipAt.each {z TI TO i1 i2 a b : Addr} {i : Nat} {h : Heap} (Z : ZipAt z TI TO i1 i2 a b i h) : ∀ c ∈ [z, TI, TO, i1, i2], ∃ o, h.get? c = some o ∧ ∀ v, o.data ≠ .cell v := by
  obtain ⟨_, _, out⟩ := Z.out
  obtain ⟨o1, e1, _, d1⟩ := Z.one
  obtain ⟨o2, e2, _, d2⟩ := Z.two
  simp only [List.forall_mem_cons]
  exact ⟨⟨_, Z.zip, nofun⟩, ⟨_, Z.ins, nofun⟩, ⟨_, out, nofun⟩, ⟨o1, e1, fun v q => nomatch d1.symm.trans q⟩, ⟨o2, e2, fun v q => nomatch d2.symm.trans q⟩, nofun⟩
/-- an iterator with the records fp has made a new pair -/
theorem pair_made {X : Cx} {pins : List (Addr × Obj)} {s : Shared} {σ : L2.St} {H : Hp} {fp : List Addr} {h' : Heap} {tk : Nat} {x y : V} {u v : Value} (I : Inv X pins σ H s) (hf : ∀ c ∈ fp, FpOk X pins H c) (each : ∀ c ∈ fp, ∃ o, s.heap.get? c = some o)
    (keeps : ∀ c o, c ∉ fp → s.heap.get? c = some o → h'.get? c = some o) (there : h'.get? s.heap.objs.size = some { cls := .type "tuple", data := .seq #[u, v] }) (ru : RelV x u) (rv : RelV y v) :
    Inv X pins σ (upd H s.heap.objs.size (.tup [x, y])) { s with heap := h', toks := tk } ∧ H s.heap.objs.size = none ∧ ∀ c ∈ fp, upd H s.heap.objs.size (.tup [x, y]) c = none := by
  have pair : ObjOk X.prog X.w (upd H s.heap.objs.size (.tup [x, y])) h' s.heap.objs.size (.tup [x, y]) := ⟨show 2 ≤ sizeLine by decide, [u, v], .cons ru (.cons rv .nil), ⟨_, there, rfl, _, rfl⟩⟩
  refine ⟨I.turnedNew (t' := tk) (ch := fp) keeps hf (Nat.le_refl _) pair, I.hok.fresh (Nat.le_refl _), fun c m => ?_⟩
  obtain ⟨o, e⟩ := each c m
  exact (upd_ne (Nat.ne_of_lt (Heap.lt_size e))).trans (hf c m).1
theorem drawn_is {its : List Value} {i : Nat} {u v : Value} (hu : its[i]? = some u) (q : its.toArray[i]? = some v) : v = u := by
  rw [List.getElem?_toArray, hu] at q
  exact (Option.some.inj q).symm
theorem drawn_lt {its : List Value} {i : Nat} {u : Value} (hu : its[i]? = some u) : i < its.toArray.size := by
  simpa using (List.getElem?_eq_some_iff.mp hu).1
theorem turn_zipM {P : Program} {w : World} {K : PySem.W.Frag} {elts : List Expr} {kk : Nat} {tpos : Pos} {a b z TI TO i1 i2 : Addr} (S : ZipSep2 z TI TO i1 i2 [i1, a] [i2, b]) (ha : a ≠ i1) (hb : b ≠ i2) :
    Turn P w K (.Tuple elts kk tpos) (ItzM K a b) [z, TI, TO, i1, i2] z (ZipAt z TI TO i1 i2 a b) where
  mem := List.mem_cons_self
  obj := fun i h Z => Z.each
  keep := fun i h h' Z k => by
    simp only [List.forall_mem_cons] at k
    exact { zip := k.1 _ Z.zip, ins := k.2.1 _ Z.ins, out := Z.out.imp fun _ => Exists.imp fun _ => k.2.2.1 _, one := Z.one.at k.2.2.2.1, two := Z.two.at k.2.2.2.2.1 }
  item := by
    rintro X rfl rfl rfl calm i pins s σ H E I hf Z ⟨xs, ys, x, y, sx, sy, atx, aty⟩
    rcases I.list sx with ⟨its, rel, lst, _⟩
    rcases I.tuple sy with ⟨its2, rel2, tup, _⟩
    rcases rel.get atx with ⟨u, hu, ru⟩
    rcases rel2.get aty with ⟨u2, hu2, ru2⟩
    obtain ⟨_, _, out⟩ := Z.out
    have D1 := Draws.list (prog := X.prog) (w := X.w) (A := X.A.in1) (I.ok.hd calm) i1 a ha its.toArray
    have D2 := Draws.tuple (prog := X.prog) (w := X.w) (A := X.A.in1) (I.ok.hd calm) i2 b hb its2.toArray
    refine wpAny_pyNext_zipD2_item S D1 D2 Z.zip Z.ins out ⟨Z.one, lst.isList⟩ ⟨Z.two, tup⟩ (drawn_lt hu) (drawn_lt hu2) ?_
    intro v1 v2 h' tk q1 q2 zip' out' st1 st2 new _ others
    obtain rfl := drawn_is hu q1
    obtain rfl := drawn_is hu2 q2
    refine ⟨_, rfl, wpAny_letOwnedTupleGo_zip (s := { s with heap := h', toks := tk }) zip' ?_⟩
    intro h'' zip'' same
    have keeps : ∀ c o, c ∉ [z, TI, TO, i1, i2] → s.heap.get? c = some o → h''.get? c = some o := fun c o m e => by
      simp only [List.mem_cons, List.not_mem_nil, or_false, not_or] at m
      exact (same.2 c m.1).trans (others c o m.1 m.2.2.1 m.2.2.2.1 m.2.2.2.2 e)
    obtain ⟨J, free, frees⟩ := pair_made (tk := tk) I hf (fun c m => (Z.each c m).imp fun _ q => q.1) keeps ((same.2 _ (Nat.ne_of_gt (Heap.lt_size Z.zip))).trans new) ru ru2
    have yld : (ItzM X.K a b).yld i H (.ref s.heap.objs.size) (upd H s.heap.objs.size (.tup [x, y])) := ⟨_, x, y, rfl, free, rfl, fun l hl => I.list_inj hl sx ▸ atx, fun l hl => I.tuple_inj hl sy ▸ aty⟩
    exact ⟨.ref s.heap.objs.size, _, J, rfl, yld,
      { zip := zip''
        ins := (same.2 _ S.TIz).trans (others _ _ S.TIz S.TITO S.TIi1 S.TIi2 Z.ins)
        out := ⟨_, _, (same.2 _ S.TOz).trans out'⟩
        one := st1.1.at fun _ q => (same.2 _ S.zi1.symm).trans q
        two := st2.1.at fun _ q => (same.2 _ S.zi2.symm).trans q }, frees⟩
  done := by
    rintro X rfl rfl rfl calm i pins s σ H E I hf Z ⟨xs, ys, sx, sy, lx, ly⟩
    rcases I.list sx with ⟨its, rel, lst, _⟩
    rcases I.tuple sy with ⟨its2, rel2, tup, _⟩
    obtain ⟨_, _, out⟩ := Z.out
    have D1 := Draws.list (prog := X.prog) (w := X.w) (A := X.A.in1) (I.ok.hd calm) i1 a ha its.toArray
    have D2 := Draws.tuple (prog := X.prog) (w := X.w) (A := X.A.in1) (I.ok.hd calm) i2 b hb its2.toArray
    have n1 : i = its.toArray.size := lx.trans (by simp [rel.length])
    have n2 : i = its2.toArray.size := ly.trans (by simp [rel2.length])
    refine wpAny_pyNext_zipD2_end S D1 D2 Z.zip Z.ins out ⟨Z.one, lst.isList⟩ ⟨Z.two, tup⟩ (Nat.le_of_eq n1) (Nat.le_of_eq n2) (.inl n1) fun h' tk others => ⟨rfl, I.turnedL (t' := tk) (ch := [z, TI, TO, i1, i2]) (fun c o m e => ?_) hf⟩
    simp only [List.mem_cons, List.not_mem_nil, or_false, not_or] at m
    exact others c o m.1 m.2.2.1 m.2.2.2.1 m.2.2.2.2 e
  self := fun _ _ _ _ _ Z h => wpAny_pyIter_zip Z.zip h
def iZipM (K : PySem.W.Frag) (ta : TA) : TI := fun σ H R => ta σ H fun vs H1 => ∃ a b xs ys, vs = [.ref a, .ref b] ∧ SqL K H1 a xs ∧ SqT K H1 b ys ∧ R (ItzM K a b) H1
theorem fresh_all {X : Cx} {pins : List (Addr × Obj)} {s : Shared} {σ : L2.St} {H : Hp} (I : Inv X pins σ H s) {fp : List Addr} (big : ∀ c ∈ fp, s.heap.objs.size ≤ c) : ∀ c ∈ fp, FpOk X pins H c := fun c m => I.fpOk (big c m) (I.hok.fresh (big c m))
theorem pi_zipM {X : Cx} {e e2 : Expr} {ta : TA} {p pos tpos : Pos} {elts : List Expr} {kk : Nat} (hg : Gl X "zip") (hm : X.mg "zip" = none) (ha : PA X [e, e2] ta) (hs : starEach [e, e2] X.env = (false, eval e X.env) :: starEach [e2] X.env := by rfl)
    (hpl : (backTo pos (starEach [e2] X.env)).any (·.1) = false := by rfl) : PI X (.Tuple elts kk tpos) (.Call (.Name "zip" p) [e, e2] [] pos) (iZipM X.K ta) := by
  constructor
  intro pins s σ H R I h
  refine Call_ (ld_blt I hg hm PyProof.Rows.boot_zip (PyProof.Rows.callWith_type1 (wpAny_mono (ha.run pos pins s σ H _ I h) ?_ fun _ _ z => z) hs hpl))
  rintro _ s1 ⟨_, H1, I1, rel, a, b, xs, ys, rfl, sx, sy, q⟩
  rcases rel with _ | ⟨⟨⟩, _ | ⟨⟨⟩, ⟨⟩⟩⟩
  rcases I1.list sx with ⟨its, _, lst, _⟩
  rcases I1.tuple sy with ⟨its2, _, tup, _⟩
  have lta : a < s1.heap.objs.size := lst.lt
  have ltb : b < s1.heap.objs.size := tup.elim fun _ z => Heap.lt_size z.1
  refine zip_begins2 (begins_list a its.toArray) (begins_tuple b its2.toArray) lst.isList tup ?_
  intro h' zip ins out one two _ keeps
  have apart := zip_sep2 (fp1 := [a]) (fp2 := [b]) (fun c m => List.mem_singleton.mp m ▸ lta) (fun c m => List.mem_singleton.mp m ▸ ltb)
  have begun : ZipAt (s1.heap.objs.size + 4) (s1.heap.objs.size + 2) (s1.heap.objs.size + 3) s1.heap.objs.size (s1.heap.objs.size + 1) a b 0 h' := ⟨zip, ins, ⟨_, _, out⟩, ⟨_, one, rfl, rfl⟩, ⟨_, two, rfl, rfl⟩⟩
  exact wpAny_pyIter_zip zip ⟨_, _, _, _, H1, rfl, I1.kept (t' := s1.toks) keeps, turn_zipM apart (Nat.ne_of_lt lta) (Nat.ne_of_lt (Nat.lt_succ_of_lt ltb)), begun, fresh_all I1 (by simp), q⟩
/-! ### enumerate(a list, start=k) -/
def IteK (K : PySem.W.Frag) (a : Addr) (k : Int) : It :=
  ⟨fun i H => ∃ (xs : List V) (x : V), SqL K H a xs ∧ xs[i]? = some x,
    fun i H v H' => ∃ T x, v = .ref T ∧ H T = none ∧ H' = upd H T (.tup [.int (k + i), x]) ∧ ∀ xs, SqL K H a xs → xs[i]? = some x,
    fun i H => ∃ xs : List V, SqL K H a xs ∧ i = xs.length⟩
theorem turn_enumK {P : Program} {w : World} {K : PySem.W.Frag} {elts : List Expr} {kk : Nat} {tpos : Pos} (a e it : Addr) (k : Int) (hae : a ≠ e) (hai : a ≠ it) (hei : e ≠ it) :
    Turn P w K (.Tuple elts kk tpos) (IteK K a k) [e, it] e (fun i h => (∃ old, IsEnum h e it (k + (i : Nat)) old) ∧ h.IsListIter it a i) where
  mem := List.mem_cons_self
  obj := by
    rintro i h ⟨⟨old, he⟩, o, ho, _, fields⟩
    simp only [List.forall_mem_cons]
    exact ⟨⟨_, he, nofun⟩, ⟨o, ho, fun v q => nomatch fields.symm.trans q⟩, nofun⟩
  keep := by
    rintro i h h' ⟨⟨old, he⟩, hi⟩ k
    simp only [List.forall_mem_cons] at k
    exact ⟨⟨old, k.1 _ he⟩, hi.at k.2.1⟩
  item := by
    rintro X rfl rfl rfl calm i pins s σ H E I hf ⟨⟨old, he⟩, hit⟩ ⟨xs, x, seq, atx⟩
    rcases I.list seq with ⟨its, rel, lst, _⟩
    rcases rel.get atx with ⟨u, hu, ru⟩
    have D := Draws.list (prog := X.prog) (w := X.w) (A := X.A.in1) (I.ok.hd calm) it a hai its.toArray
    refine wpAny_pyNext_enum_itemC D he ⟨hit, lst.isList⟩ (drawn_lt hu) hei (by simp [hei, hae.symm]) ?_
    intro v1 h' tk q1 counted st1 new _ others
    obtain rfl := drawn_is hu q1
    refine ⟨_, rfl, wpAny_letOwnedTupleGo_enum (s := { s with heap := h', toks := tk + 1 }) counted ?_⟩
    intro h'' counted' same
    have keeps : ∀ c o, c ∉ [e, it] → s.heap.get? c = some o → h''.get? c = some o := fun c o m q => by
      simp only [List.mem_cons, List.not_mem_nil, or_false, not_or] at m
      exact (same.2 c m.1).trans (others c o m.1 m.2 q)
    have each : ∀ c ∈ [e, it], ∃ o, s.heap.get? c = some o := by
      simp only [List.forall_mem_cons]
      exact ⟨⟨_, he⟩, hit.imp fun _ q => q.1, nofun⟩
    obtain ⟨J, free, frees⟩ := pair_made (tk := tk + 1) (x := .int (k + (i : Nat))) I hf each keeps ((same.2 _ (Nat.ne_of_gt (Heap.lt_size he))).trans new) ⟨_, rfl⟩ ru
    have next : k + ((i + 1 : Nat) : Int) = k + (i : Nat) + 1 := by omega
    exact ⟨.ref s.heap.objs.size, _, J, rfl, ⟨_, x, rfl, free, rfl, fun ys hy => I.list_inj hy seq ▸ atx⟩, ⟨⟨_, next ▸ counted'⟩, st1.1.at fun _ q => (same.2 it hei.symm).trans q⟩, frees⟩
  done := by
    rintro X rfl rfl rfl calm i pins s σ H E I hf ⟨⟨old, he⟩, hit⟩ ⟨xs, seq, len⟩
    rcases I.list seq with ⟨its, rel, lst, _⟩
    have D := Draws.list (prog := X.prog) (w := X.w) (A := X.A.in1) (I.ok.hd calm) it a hai its.toArray
    obtain rfl : i = its.toArray.size := len.trans (by simp [rel.length])
    have fi := hf it (by simp)
    exact wpAny_pyNext_enum_endD D he ⟨hit, lst.isList⟩ fun h' ext => ⟨rfl, I.turned (t' := s.toks) ext fi.1 fi.2.1 fi.2.2.2.1 fi.2.2.2.2.1 fi.2.2.2.2.2⟩
  self := fun _ _ _ _ _ st h => wpAny_pyIter_enum st.1.choose_spec h
def iEnumK (K : PySem.W.Frag) (k : Int) (ta : TA) : TI := fun σ H R => ta σ H fun vs H1 => ∃ a xs, vs = [.ref a] ∧ SqL K H1 a xs ∧ R (IteK K a k) H1
theorem callWith_typeKw {M : Model} {A : Around} {E : Value → Shared → Prop} {s : Shared} {pos : Pos} {T : String} {args : List (Bool × Sem Value)} {keywords : List (Option Str × Sem Value)} {Q : Value → Shared → Prop}
    (hplain : args.any (·.1) = false) (hkw : keywords.any (·.1.isNone) = false)
    (h : wpAny M A (evalArgs (.type T) true args keywords) (fun a s₁ => wpAny M A (call (.type T) a.pos a.kw) Q E s₁) E s) : wpAny M A (callWith pos (.type T) [] args keywords) Q E s := by
  rw [callWith]
  refine wpAny_bind (wpAny_holding (wpAny_mono h ?_ fun _ _ z => z))
  intro a s₁ run
  refine wpAny_bind (wpAny_standAt ?_)
  simp only [hkw, hplain, Bool.false_or]
  exact wpAny_bind (wpAny_pure (wpAny_bind (wpAny_mono run (fun r s₂ q => wpAny_bind (wpAny_holding (wpAny_point (wpAny_pure q)))) fun _ _ z => z)))
theorem pi_enumK {X : Cx} {e : Expr} {ta : TA} {p pos tpos kp cp : Pos} {elts : List Expr} {kk j : Nat} {k : Int} (hk0 : -(2 ^ 63) ≤ k) (hk1 : k < 2 ^ 63) (hg : Gl X "enumerate") (hm : X.mg "enumerate" = none) (ha : PA X [e] ta)
    (hs : starEach [e] X.env = [(false, eval e X.env)] := by rfl) :
    PI X (.Tuple elts kk tpos) (.Call (.Name "enumerate" p) [e] [⟨some "start", .Constant (.int k) j cp, kp⟩] pos) (iEnumK X.K k ta) := by
  refine ⟨fun pins s σ H R I h => ?_⟩
  refine wpAny_Call_Name_kw (ld_blt I hg hm boot_enumerate ?_)
  refine callWith_typeKw (by rw [hs]; rfl) rfl ?_
  have pk : PK X [⟨some "start", .Constant (.int k) j cp, kp⟩] (tCons (tC (.int k)) tNil) := pk_cons pe_int pk_nil
  rw [show backTo pos (starEach [e] X.env) = (false, eval e X.env) :: backTo pos (starEach [] X.env) from by rw [hs]; rfl]
  refine evalArgs_kwB rfl ?_
  rw [show ((false, eval e X.env) :: backTo pos (starEach [] X.env)) = backTo pos (starEach [e] X.env) from by rw [hs]; rfl]
  refine thn (ha.run pos pins s σ H _ I h) fun us s1 ⟨vs, H1, I1, r1, q1⟩ => ?_
  obtain ⟨a, xs, ex, hq, q⟩ := q1
  subst ex
  refine thn (pk.run pos pins s1 σ H1 (fun vs H2 => vs = [V.int k] ∧ H2 = H1) I1 ⟨rfl, rfl⟩) fun ws s2 ⟨zs, H2, I2, r2, ez, eH⟩ => ?_
  subst ez eH
  cases r1 with
  | cons r rr =>
    cases rr
    cases r
    cases r2 with
    | cons r' rr' =>
      cases rr'
      obtain ⟨t, rfl⟩ := r'
      obtain ⟨its, rv, p', hz⟩ := I2.list hq
      have lta : a < s2.heap.objs.size := p'.lt
      show wpAny _ _ (call (.type "enumerate") [.ref a] [(Str.ofString "start", .int k t)]) _ _ _
      refine enum_begins_start (begins_list a its.toArray) p'.isList hk0 hk1 fun h' he hit hsz hk => wpAny_pyIter_enum he ?_
      have I3 : Inv X pins σ H2 { s2 with heap := h' } := I2.kept (t' := s2.toks) hk
      refine ⟨s2.heap.objs.size + 1, [s2.heap.objs.size + 1, s2.heap.objs.size], _, _, H2, rfl, I3, turn_enumK a (s2.heap.objs.size + 1) s2.heap.objs.size k (Nat.ne_of_lt (Nat.lt_succ_of_lt lta)) (Nat.ne_of_lt lta) (Nat.succ_ne_self _), ⟨⟨.none, ?_⟩, ⟨_, hit, rfl, rfl⟩⟩, fun b hb => ?_, q⟩
      · rw [show k + ((0 : Nat) : Int) = k from by omega]
        exact he
      · have hle : s2.heap.objs.size ≤ b := by
          have e' : b = s2.heap.objs.size + 1 ∨ b = s2.heap.objs.size := by simpa using hb
          rcases e' with z | z <;> (rw [z]; first | exact Nat.le_refl _ | exact Nat.le_add_right _ _)
        exact I2.fpOk hle (I2.hok.fresh hle)
end Sl
set_option linter.all false
namespace SlM
open Sf47
/-! ### enough steps -/
theorem dropWhile_len (p : UInt8 → Bool) : ∀ l : Bytes, (l.dropWhile p).length ≤ l.length
  | [] => Nat.le_refl _
  | c :: r => by
    rw [List.dropWhile_cons]
    split
    · exact Nat.le_trans (dropWhile_len p r) (Nat.le_succ _)
    · exact Nat.le_refl _
/-- the sign that stands ahead, and what is behind it -/
def wTok (w x : Bytes) : Option (Sign × Bytes) := if 15 < w.length then none else some (.word w, x)
def nTok (d : Bytes) (z : Int) (x : Bytes) : Option (Sign × Bytes) := if d ≠ [] ∧ fits z = true then some (.num z, x) else none
def tok : Bytes → Option (Sign × Bytes)
  | [] => none
  | c :: r =>
    if c = 58 then some (.colon, r)
    else if c = 40 then some (.open_, r)
    else if c = 41 then some (.close, r)
    else if begins c = true then wTok (c :: r.takeWhile inWord) (r.dropWhile inWord)
    else if c = 45 then nTok (r.takeWhile digit) (-(number (r.takeWhile digit) : Int)) (r.dropWhile digit)
    else if digit c = true then nTok (c :: r.takeWhile digit) (number (c :: r.takeWhile digit)) (r.dropWhile digit)
    else none
theorem tok_cons (c : UInt8) (r : Bytes) : tok (c :: r) = if c = 58 then some (.colon, r)
    else if c = 40 then some (.open_, r)
    else if c = 41 then some (.close, r)
    else if begins c = true then wTok (c :: r.takeWhile inWord) (r.dropWhile inWord)
    else if c = 45 then nTok (r.takeWhile digit) (-(number (r.takeWhile digit) : Int)) (r.dropWhile digit)
    else if digit c = true then nTok (c :: r.takeWhile digit) (number (c :: r.takeWhile digit)) (r.dropWhile digit)
    else none := rfl
theorem wTok_map {w x : Bytes} (f : Bytes → Bytes) : (wTok w x).map (fun y => (y.1, f y.2)) = wTok w (f x) := by
  unfold wTok
  split <;> rfl
theorem nTok_map {d x : Bytes} {z : Int} (f : Bytes → Bytes) : (nTok d z x).map (fun y => (y.1, f y.2)) = nTok d z (f x) := by
  unfold nTok
  split <;> rfl
theorem wTok_len {w x y : Bytes} {s : Sign} (h : wTok w x = some (s, y)) : y = x := by
  unfold wTok at h
  split at h
  · cases h
  · cases h
    rfl
theorem nTok_len {d x y : Bytes} {z : Int} {s : Sign} (h : nTok d z x = some (s, y)) : y = x := by
  unfold nTok at h
  split at h
  · cases h
    rfl
  · cases h
theorem signs_eq (f : Nat) (c : UInt8) (r : Bytes) : signs (f + 1) (c :: r) = if c = 59 then some []
    else if blank c = true then signs f r
    else if c = 58 then (signs f r).map fun l => .colon :: l
    else if c = 40 then (signs f r).map fun l => .open_ :: l
    else if c = 41 then (signs f r).map fun l => .close :: l
    else if begins c = true then (if 15 < (c :: r.takeWhile inWord).length then none else (signs f (r.dropWhile inWord)).map fun l => .word (c :: r.takeWhile inWord) :: l)
    else if digit c = true ∨ c = 45 then
      (if (if c = 45 then r.takeWhile digit else c :: r.takeWhile digit) ≠ [] ∧ fits (if c = 45 then -(number (if c = 45 then r.takeWhile digit else c :: r.takeWhile digit) : Int) else number (if c = 45 then r.takeWhile digit else c :: r.takeWhile digit)) = true then
        (signs f (r.dropWhile digit)).map fun l => .num (if c = 45 then -(number (if c = 45 then r.takeWhile digit else c :: r.takeWhile digit) : Int) else number (if c = 45 then r.takeWhile digit else c :: r.takeWhile digit)) :: l else none)
    else none := rfl
theorem signs_tok (f : Nat) (c : UInt8) (r : Bytes) : signs (f + 1) (c :: r) = if c = 59 then some [] else if blank c = true then signs f r else (tok (c :: r)).bind fun x => (signs f x.2).map fun l => x.1 :: l := by
  rw [signs_eq, tok_cons]
  by_cases e1 : c = 59
  · rw [if_pos e1, if_pos e1]
  rw [if_neg e1, if_neg e1]
  by_cases e2 : blank c = true
  · rw [if_pos e2, if_pos e2]
  rw [if_neg e2, if_neg e2]
  by_cases e3 : c = 58
  · rw [if_pos e3, if_pos e3]; rfl
  rw [if_neg e3, if_neg e3]
  by_cases e4 : c = 40
  · rw [if_pos e4, if_pos e4]; rfl
  rw [if_neg e4, if_neg e4]
  by_cases e5 : c = 41
  · rw [if_pos e5, if_pos e5]; rfl
  rw [if_neg e5, if_neg e5]
  by_cases e6 : begins c = true
  · rw [if_pos e6, if_pos e6]
    unfold wTok
    split <;> rfl
  rw [if_neg e6, if_neg e6]
  by_cases e7 : c = 45
  · rw [if_pos (Or.inr e7), if_pos e7]
    simp only [if_pos e7]
    unfold nTok
    split <;> rfl
  · rw [if_neg e7]
    simp only [if_neg e7]
    by_cases e8 : digit c = true
    · rw [if_pos (Or.inl e8), if_pos e8]
      unfold nTok
      split <;> rfl
    · rw [if_neg (fun z => z.elim e8 e7), if_neg e8]
      rfl
theorem tok_len {l : Bytes} {s : Sign} {x : Bytes} (h : tok l = some (s, x)) : x.length < l.length := by
  cases l with
  | nil => cases h
  | cons c r =>
    rw [tok_cons] at h
    have d1 := dropWhile_len inWord r
    have d2 := dropWhile_len digit r
    rw [List.length_cons]
    split at h
    · cases h; omega
    split at h
    · cases h; omega
    split at h
    · cases h; omega
    split at h
    · rw [wTok_len h]; omega
    split at h
    · rw [nTok_len h]; omega
    split at h
    · rw [nTok_len h]; omega
    · cases h
theorem signs_fuel : ∀ (f g : Nat) (b : Bytes), b.length ≤ f → b.length ≤ g → signs f b = signs g b
  | 0, g, [], _, _ => by cases g <;> rfl
  | f + 1, 0, [], _, _ => rfl
  | f + 1, g + 1, [], _, _ => rfl
  | 0, _, c :: r, h, _ => absurd h (by simp)
  | f + 1, 0, c :: r, _, h => absurd h (by simp)
  | f + 1, g + 1, c :: r, h1, h2 => by
    have h1 : r.length ≤ f := Nat.le_of_succ_le_succ h1
    have h2 : r.length ≤ g := Nat.le_of_succ_le_succ h2
    rw [signs_tok, signs_tok, signs_fuel f g r h1 h2]
    split
    · rfl
    split
    · rfl
    cases q : tok (c :: r) with
    | none => rfl
    | some x =>
      have l := tok_len (s := x.1) (x := x.2) (by rw [q])
      rw [List.length_cons] at l
      show (signs f x.2).map _ = (signs g x.2).map _
      rw [signs_fuel f g x.2 (by omega) (by omega)]
/-- a line's signs -/
def sg (b : Bytes) : Option (List Sign) := signs (b.length + 1) b
theorem sg_of {f : Nat} {b : Bytes} (h : b.length ≤ f) : signs f b = sg b := signs_fuel _ _ _ h (Nat.le_succ _)
theorem sg_nil : sg [] = some [] := rfl
theorem sg_cons (c : UInt8) (r : Bytes) : sg (c :: r) = if c = 59 then some [] else if blank c = true then sg r else (tok (c :: r)).bind fun x => (sg x.2).map fun l => x.1 :: l := by
  show signs (r.length + 1 + 1) (c :: r) = _
  rw [signs_tok, sg_of (f := r.length + 1) (b := r) (Nat.le_succ _)]
  split
  · rfl
  split
  · rfl
  cases q : tok (c :: r) with
  | none => rfl
  | some x =>
    have l := tok_len (s := x.1) (x := x.2) (by rw [q])
    rw [List.length_cons] at l
    show (signs (r.length + 1) x.2).map _ = (sg x.2).map _
    rw [sg_of (f := r.length + 1) (b := x.2) (by omega)]
/-! ### what stands behind a ; isn't there -/
def shown (b : Bytes) : Bytes := b.takeWhile (fun c => c != 59)
theorem take_shown {p : UInt8 → Bool} (h : p 59 = false) : ∀ l : Bytes, (shown l).takeWhile p = l.takeWhile p
  | [] => rfl
  | c :: r => by
    unfold shown
    rw [List.takeWhile_cons]
    by_cases e : c = 59
    · subst e
      rw [List.takeWhile_cons, h]
      rfl
    · rw [if_pos (by simpa using e), List.takeWhile_cons, List.takeWhile_cons]
      have ih := take_shown h r
      unfold shown at ih
      rw [ih]
theorem drop_shown {p : UInt8 → Bool} (h : p 59 = false) : ∀ l : Bytes, (shown l).dropWhile p = shown (l.dropWhile p)
  | [] => rfl
  | c :: r => by
    unfold shown
    rw [List.takeWhile_cons]
    by_cases e : c = 59
    · subst e
      rw [List.dropWhile_cons, h]
      rfl
    · rw [if_pos (by simpa using e), List.dropWhile_cons, List.dropWhile_cons]
      have ih := drop_shown h r
      unfold shown at ih
      split
      · exact ih
      · rw [List.takeWhile_cons, if_pos (by simpa using e)]
theorem shown_cons {c : UInt8} {r : Bytes} (h : ¬ c = 59) : shown (c :: r) = c :: shown r := by
  unfold shown
  rw [List.takeWhile_cons, if_pos (by simpa using h)]
theorem tok_shown {c : UInt8} {r : Bytes} (h : ¬ c = 59) : tok (shown (c :: r)) = (tok (c :: r)).map fun x => (x.1, shown x.2) := by
  rw [shown_cons h, tok_cons, tok_cons]
  rw [take_shown (p := inWord) (by decide), take_shown (p := digit) (by decide), drop_shown (p := inWord) (by decide), drop_shown (p := digit) (by decide)]
  split
  · rfl
  split
  · rfl
  split
  · rfl
  split
  · exact (wTok_map shown).symm
  split
  · exact (nTok_map shown).symm
  split
  · exact (nTok_map shown).symm
  · rfl
theorem sg_shown : ∀ (n : Nat) (b : Bytes), b.length ≤ n → sg b = sg (shown b)
  | _, [], _ => rfl
  | 0, c :: r, h => absurd h (by simp)
  | n + 1, c :: r, h => by
    have h : r.length ≤ n := Nat.le_of_succ_le_succ h
    by_cases e : c = 59
    · subst e
      rfl
    · rw [sg_cons, if_neg e]
      have k := tok_shown (r := r) e
      rw [shown_cons e] at k ⊢
      rw [sg_cons, if_neg e, sg_shown n r h, k]
      split
      · rfl
      · cases q : tok (c :: r) with
        | none => rfl
        | some x =>
          have l := tok_len (s := x.1) (x := x.2) (by rw [q])
          show (sg x.2).map _ = (sg (shown x.2)).map _
          rw [sg_shown n x.2 (by rw [List.length_cons] at l; omega)]
/-! ### the bytes that are in no sign are all alike -/
def known (c : UInt8) : Bool := begins c || digit c || c == 58 || c == 40 || c == 41 || c == 32 || c == 9 || c == 45 || c == 59 || c == 10
def nb (c : UInt8) : UInt8 := if known c = true then c else 63
theorem all_bytes {p : UInt8 → Bool} (h : (List.range 256).all (fun n => p (UInt8.ofNat n)) = true) (c : UInt8) : p c = true := by
  have q := List.all_eq_true.mp h c.toNat (List.mem_range.mpr c.toNat_lt)
  rwa [UInt8.ofNat_toNat] at q
theorem nb_p {p : UInt8 → Bool} (h : (List.range 256).all (fun n => p (nb (UInt8.ofNat n)) == p (UInt8.ofNat n)) = true) (c : UInt8) : p (nb c) = p c := by
  have q := all_bytes (p := fun c => p (nb c) == p c) h c
  exact beq_iff_eq.mp q
theorem nb_eq {k : UInt8} (hk : (List.range 256).all (fun n => (nb (UInt8.ofNat n) == k) == (UInt8.ofNat n == k)) = true) (c : UInt8) : (nb c = k) ↔ (c = k) := by
  have q := nb_p (p := fun c => c == k) hk c
  have q : (nb c == k) = (c == k) := q
  constructor
  · intro e
    rw [e] at q
    simpa using q.symm
  · intro e
    rw [e] at q
    subst e
    simpa using q
theorem nb_in {c : UInt8} (h : inWord c = true) : nb c = c := by
  have q := all_bytes (p := fun c => !inWord c || nb c == c) (by decide +kernel) c
  simp only [h, Bool.not_true, Bool.false_or, beq_iff_eq] at q
  exact q
theorem nb_dig {c : UInt8} (h : digit c = true) : nb c = c := nb_in (by simp [inWord, h])
theorem take_nb {p : UInt8 → Bool} (hp : ∀ c, p (nb c) = p c) (hi : ∀ c, p c = true → nb c = c) : ∀ l : Bytes, (l.map nb).takeWhile p = l.takeWhile p
  | [] => rfl
  | c :: r => by
    rw [List.map_cons, List.takeWhile_cons, List.takeWhile_cons, hp, take_nb hp hi r]
    split
    · rename_i h
      rw [hi c h]
    · rfl
theorem drop_nb {p : UInt8 → Bool} (hp : ∀ c, p (nb c) = p c) : ∀ l : Bytes, (l.map nb).dropWhile p = (l.dropWhile p).map nb
  | [] => rfl
  | c :: r => by
    rw [List.map_cons, List.dropWhile_cons, List.dropWhile_cons, hp]
    split
    · exact drop_nb hp r
    · rfl
theorem nb_word (c : UInt8) : inWord (nb c) = inWord c := nb_p (by decide +kernel) c
theorem nb_digit (c : UInt8) : digit (nb c) = digit c := nb_p (by decide +kernel) c
theorem nb_begins (c : UInt8) : begins (nb c) = begins c := nb_p (by decide +kernel) c
theorem nb_blank (c : UInt8) : blank (nb c) = blank c := nb_p (by decide +kernel) c
theorem tok_nb (l : Bytes) : tok (l.map nb) = (tok l).map fun x => (x.1, x.2.map nb) := by
  cases l with
  | nil => rfl
  | cons c r =>
    rw [List.map_cons, tok_cons, tok_cons]
    rw [take_nb nb_word (fun _ h => nb_in h), take_nb nb_digit (fun _ h => nb_dig h), drop_nb nb_word, drop_nb nb_digit, nb_begins, nb_digit]
    simp only [nb_eq (k := 58) (by decide +kernel), nb_eq (k := 40) (by decide +kernel), nb_eq (k := 41) (by decide +kernel), nb_eq (k := 45) (by decide +kernel)]
    split
    · rfl
    split
    · rfl
    split
    · rfl
    split
    · rename_i b
      rw [nb_in (by simp [inWord, b])]
      exact (wTok_map (fun x => x.map nb)).symm
    split
    · exact (nTok_map (fun x => x.map nb)).symm
    split
    · rename_i d
      rw [nb_dig d]
      exact (nTok_map (fun x => x.map nb)).symm
    · rfl
theorem sg_nb : ∀ (n : Nat) (b : Bytes), b.length ≤ n → sg (b.map nb) = sg b
  | _, [], _ => rfl
  | 0, c :: r, h => absurd h (by simp)
  | n + 1, c :: r, h => by
    have h : r.length ≤ n := Nat.le_of_succ_le_succ h
    have k := tok_nb (c :: r)
    rw [List.map_cons] at k ⊢
    rw [sg_cons, sg_cons, k, nb_blank, sg_nb n r h]
    simp only [nb_eq (k := 59) (by decide +kernel)]
    split
    · rfl
    split
    · rfl
    cases q : tok (c :: r) with
    | none => rfl
    | some x =>
      have l := tok_len (s := x.1) (x := x.2) (by rw [q])
      show (sg (x.2.map nb)).map _ = (sg x.2).map _
      rw [sg_nb n x.2 (by rw [List.length_cons] at l; omega)]
theorem lines_nb : ∀ (l w : Bytes), linesOf (l.map nb) (w.map nb) = (linesOf l w).map fun x => x.map nb
  | [], [] => rfl
  | [], c :: w => rfl
  | c :: r, w => by
    rw [List.map_cons]
    simp only [linesOf, nb_eq (k := 10) (by decide +kernel)]
    split
    · rw [List.map_cons]
      exact congrArg _ (lines_nb r [])
    · have e : w.map nb ++ [nb c] = (w ++ [c]).map nb := by rw [List.map_append]; rfl
      rw [e]
      exact lines_nb r (w ++ [c])
theorem line_sg (p : Prog) (k : Nat) (b : Bytes) : p.line k b = if 255 < b.length then none else (sg b).bind fun s => match s with
  | .word w :: .colon :: r => (p.label k w).bind fun q => q.insn k r
  | _ => p.insn k s := rfl
theorem line_nb (p : Prog) (k : Nat) (b : Bytes) : p.line k (b.map nb) = p.line k b := by
  rw [line_sg, line_sg, List.length_map, sg_nb b.length b (Nat.le_refl _)]
theorem reads_nb : ∀ (l : List Bytes) (k : Nat) (p : Prog), reads k p (l.map fun x => x.map nb) = reads k p l
  | [], _, _ => rfl
  | b :: r, k, p => by
    rw [List.map_cons]
    simp only [reads]
    rw [line_nb]
    split
    · exact reads_nb r _ _
    · rfl
theorem program_nb (n : Int) (b : Bytes) : program n (b.map nb) = program n b := by
  unfold program
  have e := lines_nb b []
  have e : linesOf (b.map nb) [] = (linesOf b []).map fun x => x.map nb := e
  rw [e, reads_nb]
end SlM
set_option linter.all false
namespace SlM
open Sf47
/-! ### a sign as the program finds it: where it ends, what it is -/
def runLen (p : UInt8 → Bool) (l : Bytes) : Nat := (l.takeWhile p).length
def mark (c : UInt8) : Bool := c == 58 || c == 40 || c == 41
def endNum : Bytes → Option Nat
  | [] => none
  | c :: r => if c = 45 then (if runLen digit r = 0 then none else some (1 + runLen digit r)) else if runLen digit (c :: r) = 0 then none else some (runLen digit (c :: r))
def endLen : Bytes → Option Nat
  | [] => none
  | c :: r => if mark c = true then some 1 else if begins c = true then some (runLen inWord (c :: r)) else endNum (c :: r)
def numVal : Bytes → Int
  | [] => 0
  | c :: r => if c = 45 then -(number r : Int) else (number (c :: r) : Int)
def signOf : Bytes → Option Sign
  | [] => none
  | c :: r => if mark c = true then (if c = 58 then some .colon else if c = 40 then some .open_ else some .close)
    else if begins c = true then (if 15 < (c :: r).length then none else some (.word (c :: r)))
    else if fits (numVal (c :: r)) = true then some (.num (numVal (c :: r))) else none
theorem endNum_cons (c : UInt8) (r : Bytes) : endNum (c :: r) = if c = 45 then (if runLen digit r = 0 then none else some (1 + runLen digit r)) else if runLen digit (c :: r) = 0 then none else some (runLen digit (c :: r)) := rfl
theorem endLen_cons (c : UInt8) (r : Bytes) : endLen (c :: r) = if mark c = true then some 1 else if begins c = true then some (runLen inWord (c :: r)) else endNum (c :: r) := rfl
theorem numVal_cons (c : UInt8) (r : Bytes) : numVal (c :: r) = if c = 45 then -(number r : Int) else (number (c :: r) : Int) := rfl
theorem signOf_cons (c : UInt8) (r : Bytes) : signOf (c :: r) = if mark c = true then (if c = 58 then some .colon else if c = 40 then some .open_ else some .close)
    else if begins c = true then (if 15 < (c :: r).length then none else some (.word (c :: r)))
    else if fits (numVal (c :: r)) = true then some (.num (numVal (c :: r))) else none := rfl
theorem take_run (p : UInt8 → Bool) : ∀ l : Bytes, l.take (runLen p l) = l.takeWhile p
  | [] => rfl
  | c :: r => by
    unfold runLen
    rw [List.takeWhile_cons]
    split
    · rw [List.length_cons, List.take_succ_cons]
      exact congrArg _ (take_run p r)
    · rfl
theorem drop_run (p : UInt8 → Bool) : ∀ l : Bytes, l.drop (runLen p l) = l.dropWhile p
  | [] => rfl
  | c :: r => by
    unfold runLen
    rw [List.takeWhile_cons, List.dropWhile_cons]
    split
    · rw [List.length_cons, List.drop_succ_cons]
      exact drop_run p r
    · rfl
theorem run_cons {p : UInt8 → Bool} {c : UInt8} {r : Bytes} (h : p c = true) : runLen p (c :: r) = 1 + runLen p r := by
  unfold runLen
  rw [List.takeWhile_cons, if_pos h, List.length_cons, Nat.add_comm]
theorem run_zero {p : UInt8 → Bool} {c : UInt8} {r : Bytes} (h : ¬ p c = true) : runLen p (c :: r) = 0 := by
  unfold runLen
  rw [List.takeWhile_cons, if_neg h]
  rfl
theorem run_nil {p : UInt8 → Bool} {r : Bytes} : runLen p r = 0 ↔ r.takeWhile p = [] := List.length_eq_zero_iff
theorem run_le (p : UInt8 → Bool) : ∀ l : Bytes, runLen p l ≤ l.length
  | [] => Nat.le_refl _
  | c :: r => by
    by_cases h : p c = true
    · rw [run_cons h, List.length_cons]
      have := run_le p r
      omega
    · rw [run_zero h]
      exact Nat.zero_le _
theorem mark_iff {c : UInt8} : mark c = true ↔ c = 58 ∨ c = 40 ∨ c = 41 := by
  simp [mark, or_assoc]
theorem begins_ne {c : UInt8} (h : begins c = true) : c ≠ 45 ∧ inWord c = true := by
  refine ⟨fun e => ?_, by simp [inWord, h]⟩
  subst e
  exact absurd h (by decide)
theorem digit_ne {c : UInt8} (h : digit c = true) : c ≠ 45 := fun e => by
  subst e
  exact absurd h (by decide)
theorem tok_end (l : Bytes) : tok l = (endLen l).bind fun n => (signOf (l.take n)).map fun s => (s, l.drop n) := by
  cases l with
  | nil => rfl
  | cons c r =>
    rw [tok_cons, endLen_cons]
    by_cases m : mark c = true
    · rw [if_pos m]
      show _ = (signOf [c]).map fun s => (s, r)
      rw [signOf_cons, if_pos m]
      rcases mark_iff.mp m with rfl | rfl | rfl <;> rfl
    · have m' : ¬ c = 58 ∧ ¬ c = 40 ∧ ¬ c = 41 := ⟨fun e => m (mark_iff.mpr (.inl e)), fun e => m (mark_iff.mpr (.inr (.inl e))), fun e => m (mark_iff.mpr (.inr (.inr e)))⟩
      rw [if_neg m, if_neg m'.1, if_neg m'.2.1, if_neg m'.2.2]
      by_cases b : begins c = true
      · rw [if_pos b, if_pos b]
        obtain ⟨_, w⟩ := begins_ne b
        show _ = (signOf ((c :: r).take (runLen inWord (c :: r)))).map fun s => (s, (c :: r).drop (runLen inWord (c :: r)))
        rw [take_run, drop_run, List.takeWhile_cons, if_pos w, List.dropWhile_cons, if_pos w]
        unfold wTok
        rw [signOf_cons, if_neg m, if_pos b]
        split <;> rfl
      · rw [if_neg b, if_neg b]
        rw [endNum_cons]
        by_cases e : c = 45
        · rw [if_pos e, if_pos e]
          by_cases z : runLen digit r = 0
          · rw [if_pos z]
            unfold nTok
            rw [if_neg (fun q => q.1 (run_nil.mp z))]
            rfl
          · rw [if_neg z]
            show _ = (signOf ((c :: r).take (1 + runLen digit r))).map fun s => (s, (c :: r).drop (1 + runLen digit r))
            rw [Nat.add_comm, List.take_succ_cons, List.drop_succ_cons, take_run, drop_run]
            unfold nTok
            rw [signOf_cons, numVal_cons, if_neg m, if_neg b, if_pos e]
            have z' : r.takeWhile digit ≠ [] := fun q => z (run_nil.mpr q)
            by_cases ft : fits (-(number (r.takeWhile digit) : Int)) = true
            · rw [if_pos ⟨z', ft⟩, if_pos ft]
              rfl
            · rw [if_neg (fun q => ft q.2), if_neg ft]
              rfl
        · rw [if_neg e, if_neg e]
          by_cases d : digit c = true
          · rw [if_pos d, if_neg (by rw [run_cons d]; omega)]
            show _ = (signOf ((c :: r).take (runLen digit (c :: r)))).map fun s => (s, (c :: r).drop (runLen digit (c :: r)))
            rw [take_run, drop_run, List.takeWhile_cons, if_pos d, List.dropWhile_cons, if_pos d]
            unfold nTok
            rw [signOf_cons, numVal_cons, if_neg m, if_neg b, if_neg e]
            by_cases ft : fits (number (c :: r.takeWhile digit) : Int) = true
            · rw [if_pos ⟨by simp, ft⟩, if_pos ft]
              rfl
            · rw [if_neg (fun q => ft q.2), if_neg ft]
              rfl
          · rw [if_neg d, if_pos (run_zero d)]
            rfl
theorem endLen_pos {l : Bytes} {n : Nat} (h : endLen l = some n) : 0 < n ∧ n ≤ l.length := by
  cases l with
  | nil => cases h
  | cons c r =>
    rw [endLen_cons] at h
    have r1 := run_le inWord (c :: r)
    have r2 := run_le digit (c :: r)
    have r3 := run_le digit r
    rw [List.length_cons] at r1 r2 ⊢
    split at h
    · cases h; omega
    split at h
    · rename_i b
      have := run_cons (r := r) (begins_ne b).2
      cases h; omega
    rw [endNum_cons] at h
    split at h
    · split at h
      · cases h
      · cases h; omega
    · split at h
      · cases h
      · cases h; omega
/-! ### bits and words by their names -/
/-- kinds as the program calls them: a letter's text, "constant", "number", "label" -/
def bitKV : Bit → Bytes × Int
  | .i n => (txt "I", n)
  | .q n => (txt "Q", n)
  | .m n => (txt "M", n)
  | .t n => (txt "T", n)
  | .c n => (txt "C", n)
  | .lit b => (txt "constant", if b = true then 1 else 0)
def wordKV : Word → Bytes × Int
  | .w n => (txt "W", n)
  | .e n => (txt "E", n)
  | .v n => (txt "V", n)
  | .lit z => (txt "number", z)
def opKV : Bit ⊕ Word → Bytes × Int
  | .inl b => bitKV b
  | .inr w => wordKV w
def sizes : List (UInt8 × Nat) := [(73, 64), (81, 64), (77, 256), (84, 32), (67, 32), (87, 256), (69, 32), (86, 32)]
def plain (d : Bytes) : Bool := d == [48] || (!d.isEmpty && d.all digit && d.head? != some 48)
theorem plain_iff (d : Bytes) : plain d = true ↔ d ≠ [] ∧ d.all digit = true ∧ (d.length = 1 ∨ d.head? ≠ some 48) := by
  cases d with
  | nil => simp [plain]
  | cons c r =>
    cases r with
    | nil =>
      simp only [plain]
      by_cases e : c = 48
      · subst e
        decide
      · simp [e]
    | cons c' r' => simp [plain]
/-- the name of a bit or a word: its kind, its number -/
def nameKV (w : Bytes) : Option (Bytes × Int) := if w = txt "TRUE" then some (txt "constant", 1) else if w = txt "FALSE" then some (txt "constant", 0) else match w with
  | [] => none
  | x :: d => match sizes.lookup x with
    | none => none
    | some most => if plain d = true then (if number d < most then some ([x], (number d : Int)) else none) else none
theorem numbered_eq (x : UInt8) (d : Bytes) (c : UInt8) (most : Nat) : numbered (x :: d) c most = if x = c then (if plain d = true then (if number d < most then some (number d) else none) else none) else none := by
  show (if x = c ∧ d ≠ [] ∧ d.all digit = true ∧ (d.length = 1 ∨ d.head? ≠ some 48) ∧ number d < most then some (number d) else none) = _
  by_cases e : x = c
  · rw [if_pos e]
    by_cases p : plain d = true
    · rw [if_pos p]
      obtain ⟨p1, p2, p3⟩ := (plain_iff d).mp p
      by_cases n : number d < most
      · rw [if_pos ⟨e, p1, p2, p3, n⟩, if_pos n]
      · rw [if_neg (fun q => n q.2.2.2.2), if_neg n]
    · rw [if_neg p, if_neg (fun q => p ((plain_iff d).mpr ⟨q.2.1, q.2.2.1, q.2.2.2.1⟩))]
  · rw [if_neg e, if_neg (fun q => e q.1)]
theorem first_cons {α : Type} (o : Option α) (l : List (Option α)) : first (o :: l) = match o with | some a => some a | none => first l := by
  unfold first
  cases o <;> rfl
theorem num_some {c : UInt8} {d : Bytes} {most : Nat} : numbered (c :: d) c most = if plain d = true then (if number d < most then some (number d) else none) else none := by rw [numbered_eq, if_pos rfl]
theorem num_none {x c : UInt8} {d : Bytes} {most : Nat} (h : x ≠ c) : numbered (x :: d) c most = none := by rw [numbered_eq, if_neg h]
theorem plain_true {r : Bytes} : plain (82 :: r) = false := by
  cases h : plain (82 :: r) with
  | false => rfl
  | true =>
    have q := ((plain_iff _).mp h).2.1
    rw [List.all_cons] at q
    exact absurd q (by rw [show digit 82 = false from by decide]; simp)
theorem operand_word (w : Bytes) : operand (.word w) = match first [(numbered w 87 256).map Word.w, (numbered w 69 32).map Word.e, (numbered w 86 32).map Word.v] with
  | some x => some (.inr x)
  | none => (bitOf w).map Sum.inl := rfl
theorem bitOf_else {w : Bytes} (t : ¬ w = txt "TRUE") (f : ¬ w = txt "FALSE") : bitOf w = first [(numbered w 73 64).map Bit.i, (numbered w 81 64).map Bit.q, (numbered w 77 256).map Bit.m, (numbered w 84 32).map Bit.t, (numbered w 67 32).map Bit.c] := by
  unfold bitOf
  rw [if_neg t, if_neg f]
theorem name_is (w : Bytes) : nameKV w = (operand (.word w)).map opKV := by
  by_cases t : w = txt "TRUE"
  · subst t
    decide
  by_cases f : w = txt "FALSE"
  · subst f
    decide
  unfold nameKV
  rw [if_neg t, if_neg f, operand_word, bitOf_else t f]
  cases w with
  | nil => rfl
  | cons x d =>
    by_cases h : x ∈ [73, 81, 77, 84, 67, 87, 69, 86]
    · simp only [List.mem_cons, List.not_mem_nil, or_false] at h
      clear t f
      rcases h with rfl | rfl | rfl | rfl | rfl | rfl | rfl | rfl <;>
        (simp (decide := true) only [numbered_eq, if_true, if_false, Option.map_none, first_cons]
         show (if plain d = true then _ else _) = _
         split
         · split <;> rfl
         · rfl)
    · have hx : ∀ y ∈ [73, 81, 77, 84, 67, 87, 69, 86], x ≠ y := fun y hy e => h (e ▸ hy)
      have e1 : sizes.lookup x = none := by
        unfold sizes
        simp only [List.lookup_cons]
        rw [beq_eq_false_iff_ne.mpr (hx 73 (by simp)), beq_eq_false_iff_ne.mpr (hx 81 (by simp)), beq_eq_false_iff_ne.mpr (hx 77 (by simp)), beq_eq_false_iff_ne.mpr (hx 84 (by simp)), beq_eq_false_iff_ne.mpr (hx 67 (by simp)), beq_eq_false_iff_ne.mpr (hx 87 (by simp)), beq_eq_false_iff_ne.mpr (hx 69 (by simp)), beq_eq_false_iff_ne.mpr (hx 86 (by simp))]
        rfl
      simp only [e1]
      rw [num_none (hx 73 (by simp)), num_none (hx 81 (by simp)), num_none (hx 77 (by simp)), num_none (hx 84 (by simp)), num_none (hx 67 (by simp)), num_none (hx 87 (by simp)), num_none (hx 69 (by simp)), num_none (hx 86 (by simp))]
      rfl
end SlM
set_option linter.all false
set_option maxRecDepth 4000
namespace SlM
open Sf47
/-! ### operands by what the specification calls them -/
theorem op_named (w : Bytes) : (numbered w 87 256 = (operand (.word w)).bind fun o => match o with | .inr (.w n) => some n | _ => none) ∧
    (numbered w 84 32 = (operand (.word w)).bind fun o => match o with | .inl (.t n) => some n | _ => none) ∧
    (numbered w 67 32 = (operand (.word w)).bind fun o => match o with | .inl (.c n) => some n | _ => none) ∧
    (numbered w 77 256 = (operand (.word w)).bind fun o => match o with | .inl (.m n) => some n | _ => none) ∧
    (bitOf w = (operand (.word w)).bind fun o => match o with | .inl b => some b | _ => none) := by
  by_cases t : w = txt "TRUE"
  · subst t
    decide
  by_cases f : w = txt "FALSE"
  · subst f
    decide
  rw [operand_word, bitOf_else t f]
  cases w with
  | nil => decide
  | cons x d =>
    clear t f
    by_cases h : x ∈ [73, 81, 77, 84, 67, 87, 69, 86]
    · simp only [List.mem_cons, List.not_mem_nil, or_false] at h
      rcases h with rfl | rfl | rfl | rfl | rfl | rfl | rfl | rfl <;>
        (simp (decide := true) only [numbered_eq, if_true, if_false, Option.map_none, first_cons]
         by_cases p : plain d = true
         · simp only [p, if_true]
           by_cases n : number d < 32
           · have n2 : number d < 64 := by omega
             have n3 : number d < 256 := by omega
             simp only [n, n2, n3, if_true]
             exact ⟨rfl, rfl, rfl, rfl, rfl⟩
           · by_cases n2 : number d < 64
             · have n3 : number d < 256 := by omega
               simp only [n, n2, n3, if_true, if_false]
               exact ⟨rfl, rfl, rfl, rfl, rfl⟩
             · by_cases n3 : number d < 256
               · simp only [n, n2, n3, if_true, if_false]
                 exact ⟨rfl, rfl, rfl, rfl, rfl⟩
               · simp only [n, n2, n3, if_false]
                 exact ⟨rfl, rfl, rfl, rfl, rfl⟩
         · simp only [p, if_false]
           exact ⟨rfl, rfl, rfl, rfl, rfl⟩)
    · have hx : ∀ y ∈ [73, 81, 77, 84, 67, 87, 69, 86], x ≠ y := fun y hy e => h (e ▸ hy)
      rw [num_none (hx 73 (by simp)), num_none (hx 81 (by simp)), num_none (hx 77 (by simp)), num_none (hx 84 (by simp)), num_none (hx 67 (by simp)), num_none (hx 87 (by simp)), num_none (hx 69 (by simp)), num_none (hx 86 (by simp))]
      exact ⟨rfl, rfl, rfl, rfl, rfl⟩
theorem op_num (z : Int) : operand (.num z) = some (.inr (.lit z)) := rfl
theorem op_colon : operand .colon = none := rfl
theorem op_open : operand .open_ = none := rfl
theorem op_close : operand .close = none := rfl
theorem named_w (s : Sign) : named s 87 256 = (operand s).bind fun o => match o with | .inr (.w n) => some n | _ => none := by
  cases s with
  | word w => exact (op_named w).1
  | _ => rfl
theorem named_t (s : Sign) : named s 84 32 = (operand s).bind fun o => match o with | .inl (.t n) => some n | _ => none := by
  cases s with
  | word w => exact (op_named w).2.1
  | _ => rfl
theorem named_c (s : Sign) : named s 67 32 = (operand s).bind fun o => match o with | .inl (.c n) => some n | _ => none := by
  cases s with
  | word w => exact (op_named w).2.2.1
  | _ => rfl
theorem named_m (s : Sign) : named s 77 256 = (operand s).bind fun o => match o with | .inl (.m n) => some n | _ => none := by
  cases s with
  | word w => exact (op_named w).2.2.2.1
  | _ => rfl
/-- a bit by its word -/
def bitSign (s : Sign) : Option Bit := (operand s).bind fun o => match o with | .inl b => some b | _ => none
theorem bit_word (w : Bytes) : bitOf w = bitSign (.word w) := (op_named w).2.2.2.2
theorem target_is (s : Sign) : target s = (bitSign s).bind fun b => if writable b = true then some b else none := by
  cases s with
  | word w =>
    show (bitOf w).bind _ = _
    rw [bit_word]
  | _ => rfl
/-! ### the tables of the program -/
/-! ### the program's reading of an operand -/
abbrev Opd := Bytes × (Bytes ⊕ Int)
def valueOf : Sign → Option (Bytes × Int)
  | .num z => some (txt "number", z)
  | .word w => nameKV w
  | _ => none
theorem valueOf_is (s : Sign) : valueOf s = (operand s).map opKV := by
  cases s with
  | word w => exact name_is w
  | _ => rfl
def kindIn (f k : Bytes) : Bool := ((kinds.lookup f).getD []).contains k
def readOp (s : Sign) (f : Bytes) : Option Opd :=
  if f = txt "label" then (match s with | .word w => some (txt "label", .inl w) | _ => none)
  else (valueOf s).bind fun kv => if kindIn f kv.1 = true then (if f = txt "duration" ∧ kv.2 < 0 then none else some (kv.1, .inr kv.2)) else none
def E (o : Bit ⊕ Word) : Opd := ((opKV o).1, .inr (opKV o).2)
theorem readOp_as {f : Bytes} (h1 : f ≠ txt "label") (h2 : f ≠ txt "duration") (s : Sign) : readOp s f = (operand s).bind fun o => if kindIn f (opKV o).1 = true then some (E o) else none := by
  unfold readOp
  rw [if_neg h1, valueOf_is]
  cases operand s with
  | none => rfl
  | some o =>
    have e : (if f = txt "duration" ∧ (opKV o).2 < 0 then none else some ((opKV o).1, Sum.inr (opKV o).2)) = some (E o) := if_neg (fun q => h2 q.1)
    show (if kindIn f (opKV o).1 = true then (if f = txt "duration" ∧ (opKV o).2 < 0 then none else some ((opKV o).1, Sum.inr (opKV o).2)) else none) = _
    rw [e]
    rfl
theorem readOp_any (s : Sign) : readOp s (txt "any") = (operand s).map E := by
  rw [readOp_as (by decide) (by decide)]
  rcases operand s with _ | ((_ | _ | _ | _ | _ | b) | (_ | _ | _ | _)) <;> first | rfl | (cases b <;> rfl)
theorem readOp_bit (s : Sign) : readOp s (txt "bit") = (bitSign s).map fun b => E (.inl b) := by
  rw [readOp_as (by decide) (by decide)]
  unfold bitSign
  rcases operand s with _ | ((_ | _ | _ | _ | _ | b) | (_ | _ | _ | _)) <;> first | rfl | (cases b <;> rfl)
theorem readOp_word (s : Sign) : readOp s (txt "word") = (operand s).bind fun o => match o with | .inr w => some (E (.inr w)) | _ => none := by
  rw [readOp_as (by decide) (by decide)]
  rcases operand s with _ | ((_ | _ | _ | _ | _ | b) | (_ | _ | _ | _)) <;> first | rfl | (cases b <;> rfl)
theorem readOp_sbit (s : Sign) : readOp s (txt "stored bit") = (target s).map fun b => E (.inl b) := by
  rw [readOp_as (by decide) (by decide), target_is]
  unfold bitSign
  rcases operand s with _ | ((_ | _ | _ | _ | _ | b) | (_ | _ | _ | _)) <;> first | rfl | (cases b <;> rfl)
theorem readOp_stored (s : Sign) : readOp s (txt "stored") = match target s with
    | some b => some (E (.inl b))
    | none => (named s 87 256).map fun n => E (.inr (.w n)) := by
  rw [readOp_as (by decide) (by decide), target_is, named_w]
  unfold bitSign
  rcases operand s with _ | ((_ | _ | _ | _ | _ | b) | (_ | _ | _ | _)) <;> first | rfl | (cases b <;> rfl)
theorem readOp_timer (s : Sign) : readOp s (txt "timer") = (named s 84 32).map fun n => E (.inl (.t n)) := by
  rw [readOp_as (by decide) (by decide), named_t]
  rcases operand s with _ | ((_ | _ | _ | _ | _ | b) | (_ | _ | _ | _)) <;> first | rfl | (cases b <;> rfl)
theorem readOp_counter (s : Sign) : readOp s (txt "counter") = (named s 67 32).map fun n => E (.inl (.c n)) := by
  rw [readOp_as (by decide) (by decide), named_c]
  rcases operand s with _ | ((_ | _ | _ | _ | _ | b) | (_ | _ | _ | _)) <;> first | rfl | (cases b <;> rfl)
theorem readOp_edge (s : Sign) : readOp s (txt "edge") = (named s 77 256).map fun n => E (.inl (.m n)) := by
  rw [readOp_as (by decide) (by decide), named_m]
  rcases operand s with _ | ((_ | _ | _ | _ | _ | b) | (_ | _ | _ | _)) <;> first | rfl | (cases b <;> rfl)
theorem readOp_number (s : Sign) : readOp s (txt "number") = match s with | .num z => some (txt "number", .inr z) | _ => none := by
  rw [readOp_as (by decide) (by decide)]
  cases s with
  | word w =>
    show (operand (.word w)).bind _ = none
    rw [operand_word]
    unfold first
    have h : ∀ o : Option Bit, (o.map Sum.inl : Option (Bit ⊕ Word)).bind (fun o => if kindIn (txt "number") (opKV o).1 = true then some (E o) else none) = none := fun o => by
      rcases o with _ | (_ | _ | _ | _ | _ | b) <;> first | rfl | (cases b <;> rfl)
    cases numbered w 87 256 with
    | some n => rfl
    | none =>
      cases numbered w 69 32 with
      | some n => rfl
      | none =>
        cases numbered w 86 32 with
        | some n => rfl
        | none => exact h _
  | _ => rfl
theorem readOp_duration (s : Sign) : readOp s (txt "duration") = match s with | .num z => (if 0 ≤ z then some (txt "number", .inr z) else none) | _ => none := by
  have k := readOp_number s
  rw [readOp_as (by decide) (by decide)] at k
  unfold readOp
  rw [if_neg (by decide), valueOf_is]
  cases s with
  | num z =>
    show (if kindIn (txt "duration") (txt "number") = true then (if txt "duration" = txt "duration" ∧ z < 0 then none else some ((txt "number", Sum.inr z) : Opd)) else none) = _
    rw [if_pos (by decide)]
    by_cases c : z < 0
    · rw [if_pos ⟨rfl, c⟩]
      exact (if_neg (by omega)).symm
    · rw [if_neg (fun q => c q.2)]
      exact (if_pos (by omega)).symm
  | word w =>
    cases q : operand (.word w) with
    | none => rfl
    | some o =>
      rw [q] at k
      show (if kindIn (txt "duration") (opKV o).1 = true then _ else none) = none
      have k : (if kindIn (txt "number") (opKV o).1 = true then some (E o) else none) = none := k
      by_cases c : kindIn (txt "number") (opKV o).1 = true
      · rw [if_pos c] at k
        cases k
      · exact if_neg c
  | _ => rfl
theorem readOp_label (s : Sign) : readOp s (txt "label") = match s with | .word w => some (txt "label", .inl w) | _ => none := by
  unfold readOp
  rw [if_pos rfl]
end SlM
set_option linter.all false
set_option maxRecDepth 8000
set_option maxHeartbeats 2000000
namespace SlM
open Sf47
/-! ### an instruction's name, whether it opens, its operands -/
def readOps : List Sign → List Bytes → Option (List Opd)
  | [], [] => some []
  | s :: ss, f :: fs => (readOp s f).bind fun o => (readOps ss fs).map fun l => o :: l
  | _, _ => none
abbrev Ins := Bytes × Bool × List Opd
/-- a sign's text, where it is one -/
def textOf : Sign → Option Bytes
  | .word w => some w
  | .num _ => none
  | .colon => some [58]
  | .open_ => some [40]
  | .close => some [41]
def readIns : List Sign → Option Ins
  | [] => none
  | s :: t => (textOf s).bind fun n => (forms.lookup n).bind fun fs => match t with
    | .open_ :: t' => if putOff.contains n = true then (readOps t' [txt "any"]).map fun l => (n, true, l) else none
    | _ => (readOps t fs).map fun l => (n, false, l)
def binName : Bin → Bytes
  | .logic .and false => txt "AND"
  | .logic .or false => txt "OR"
  | .logic .xor false => txt "XOR"
  | .logic .and true => txt "ANDN"
  | .logic .or true => txt "ORN"
  | .logic .xor true => txt "XORN"
  | .arith .add => txt "ADD"
  | .arith .sub => txt "SUB"
  | .arith .mul => txt "MUL"
  | .arith .div => txt "DIV"
  | .arith .mod => txt "MOD"
  | .cmp .gt => txt "GT"
  | .cmp .ge => txt "GE"
  | .cmp .eq => txt "EQ"
  | .cmp .ne => txt "NE"
  | .cmp .le => txt "LE"
  | .cmp .lt => txt "LT"
def insKV : Insn → Ins
  | .ld x => (txt "LD", false, [E x])
  | .ldn b => (txt "LDN", false, [E (.inl b)])
  | .st n b => (if n = true then txt "STN" else txt "ST", false, [E (.inl b)])
  | .stw n => (txt "ST", false, [E (.inr (.w n))])
  | .put one b => (if one = true then txt "S" else txt "R", false, [E (.inl b)])
  | .not => (txt "NOT", false, [])
  | .bin o x => (binName o, false, [E x])
  | .open_ o x => (binName o, true, [E x])
  | .close => (txt ")", false, [])
  | .jmp k l => (match k with | .always => txt "JMP" | .one => txt "JMPC" | .zero => txt "JMPCN", false, [(txt "label", .inl l)])
  | .ret c => (if c = true then txt "RETC" else txt "RET", false, [])
  | .timer k t w => (match k with | .ton => txt "TON" | .tof => txt "TOF" | .tp => txt "TP", false, [E (.inl (.t t)), (txt "number", .inr (w : Int))])
  | .ctu c w => (txt "CTU", false, [E (.inl (.c c)), (txt "number", .inr w)])
  | .rc c => (txt "RC", false, [E (.inl (.c c))])
  | .edge up m => (if up = true then txt "UP" else txt "DOWN", false, [E (.inl (.m m))])
/-! ### the specification's reading, by how many signs there are -/
theorem insn_one (w : Bytes) : insn [.word w] = if w = txt "NOT" then some .not else if w = txt "RET" then some (.ret false) else if w = txt "RETC" then some (.ret true) else none := rfl
theorem insn_open (w : Bytes) (x : Sign) : insn [.word w, .open_, x] = (binOf w).bind fun o => (operand x).map fun y => .open_ o y := by cases x <;> rfl
theorem insn_two (w : Bytes) (x : Sign) : insn [.word w, x] =
    if w = txt "LD" then (operand x).map Insn.ld
    else if w = txt "LDN" then (bitSign x).map Insn.ldn
    else if w = txt "ST" then (match target x with
      | some b => some (.st false b)
      | none => (named x 87 256).map Insn.stw)
    else if w = txt "STN" then (target x).map (Insn.st true)
    else if w = txt "S" then (target x).map (Insn.put true)
    else if w = txt "R" then (target x).map (Insn.put false)
    else if w = txt "JMP" ∨ w = txt "JMPC" ∨ w = txt "JMPCN" then (match x with
      | .word l => some (.jmp (if w = txt "JMP" then .always else if w = txt "JMPC" then .one else .zero) l)
      | _ => none)
    else if w = txt "RC" then (named x 67 32).map Insn.rc
    else if w = txt "UP" then (named x 77 256).map (Insn.edge true)
    else if w = txt "DOWN" then (named x 77 256).map (Insn.edge false)
    else (binOf w).bind fun o => (operand x).bind fun y => if o.takes y = true then some (.bin o y) else none := by
  cases x with
  | word y =>
    rw [← bit_word]
    rfl
  | _ => rfl
theorem insn_three (w : Bytes) (x : Sign) (z : Int) (h : x ≠ .open_) : insn [.word w, x, .num z] = if w = txt "CTU" then (named x 67 32).map fun c => .ctu c z
    else (if w = txt "TON" then some Timer.ton else if w = txt "TOF" then some .tof else if w = txt "TP" then some .tp else none).bind fun k => (named x 84 32).bind fun t => if 0 ≤ z then some (.timer k t z.toNat) else none := by
  cases x with
  | open_ => exact absurd rfl h
  | _ => rfl
theorem insn_three_no (w : Bytes) (x y : Sign) (h : x ≠ .open_) (hy : ∀ z, y ≠ .num z) : insn [.word w, x, y] = none := by
  cases x with
  | open_ => exact absurd rfl h
  | _ => cases y with
    | num z => exact absurd rfl (hy z)
    | _ => rfl
theorem insn_more (w : Bytes) (x y z : Sign) (r : List Sign) : insn (.word w :: x :: y :: z :: r) = none := by
  cases x <;> cases y <;> rfl
/-! ### the program's -/
theorem ops_len : ∀ {ss : List Sign} {fs : List Bytes}, ss.length ≠ fs.length → readOps ss fs = none
  | [], [], h => absurd rfl h
  | [], _ :: _, _ => rfl
  | _ :: _, [], _ => rfl
  | s :: ss, f :: fs, h => by
    unfold readOps
    rw [ops_len (ss := ss) (fs := fs) (by simpa using h)]
    cases readOp s f <;> rfl
theorem ops_one (s : Sign) (f : Bytes) : readOps [s] [f] = (readOp s f).map fun o => [o] := by
  unfold readOps readOps
  cases readOp s f <;> rfl
theorem ops_two (s t : Sign) (f g : Bytes) : readOps [s, t] [f, g] = (readOp s f).bind fun o => (readOp t g).map fun p => [o, p] := by
  unfold readOps
  rw [ops_one]
  cases readOp s f with
  | none => rfl
  | some o => cases readOp t g <;> rfl
theorem ins_plain {w : Bytes} {fs : List Bytes} {t : List Sign} (h : forms.lookup w = some fs) (ht : ∀ t', t ≠ .open_ :: t') : readIns (.word w :: t) = (readOps t fs).map fun l => (w, false, l) := by
  unfold readIns
  show ((forms.lookup w).bind fun fs => _) = _
  rw [h]
  cases t with
  | nil => rfl
  | cons s r =>
    cases s with
    | open_ => exact absurd rfl (ht r)
    | _ => rfl
theorem ins_paren {w : Bytes} {fs : List Bytes} {t : List Sign} (h : forms.lookup w = some fs) : readIns (.word w :: .open_ :: t) = if putOff.contains w = true then (readOps t [txt "any"]).map fun l => (w, true, l) else none := by
  unfold readIns
  show ((forms.lookup w).bind fun fs => _) = _
  rw [h]
  rfl
theorem ne_of_lookup {w n : Bytes} {fs : List Bytes} (h : forms.lookup w = none) (hn : forms.lookup n = some fs) : w ≠ n := fun e => by
  rw [e, hn] at h
  cases h
theorem bin_none {w : Bytes} (h : ¬ putOff.contains w = true) : binOf w = none := by
  have hn : ∀ n ∈ putOff, n ≠ w := fun n hm e => h (by rw [← e]; exact List.contains_iff_mem.mpr hm)
  unfold binOf
  rw [List.find?_eq_none.mpr, Option.map_none]
  intro p hp
  have hm : p.1 ∈ putOff := by
    simp only [List.mem_cons, List.not_mem_nil, or_false] at hp
    rcases hp with rfl | rfl | rfl | rfl | rfl | rfl | rfl | rfl | rfl | rfl | rfl | rfl | rfl | rfl | rfl | rfl | rfl <;> decide
  simpa using hn p.1 hm
theorem ins_unknown {w : Bytes} (h : forms.lookup w = none) (t : List Sign) : insn (.word w :: t) = none := by
  have ne := fun {n fs} (hn : forms.lookup n = some fs) => ne_of_lookup h hn
  have b : binOf w = none := bin_none fun q => by
    have m := List.contains_iff_mem.mp q
    unfold putOff at m
    simp only [List.mem_cons, List.not_mem_nil, or_false] at m
    rcases m with e | e | e | e | e | e | e | e | e | e | e | e | e | e | e | e | e <;> (subst e; exact absurd h (by decide))
  rcases t with _ | ⟨x, _ | ⟨y, _ | ⟨z, r⟩⟩⟩
  · rw [insn_one, if_neg (ne (n := txt "NOT") rfl), if_neg (ne (n := txt "RET") rfl), if_neg (ne (n := txt "RETC") rfl)]
  · rw [insn_two, if_neg (ne (n := txt "LD") rfl), if_neg (ne (n := txt "LDN") rfl), if_neg (ne (n := txt "ST") rfl), if_neg (ne (n := txt "STN") rfl), if_neg (ne (n := txt "S") rfl), if_neg (ne (n := txt "R") rfl),
      if_neg (fun q => q.elim (ne (n := txt "JMP") rfl) fun q => q.elim (ne (n := txt "JMPC") rfl) (ne (n := txt "JMPCN") rfl)), if_neg (ne (n := txt "RC") rfl), if_neg (ne (n := txt "UP") rfl), if_neg (ne (n := txt "DOWN") rfl), b]
    rfl
  · by_cases ho : x = .open_
    · subst ho
      rw [insn_open, b]
      rfl
    · by_cases hy : ∃ z, y = .num z
      · obtain ⟨z, rfl⟩ := hy
        rw [insn_three _ _ _ ho, if_neg (ne (n := txt "CTU") rfl), if_neg (ne (n := txt "TON") rfl), if_neg (ne (n := txt "TOF") rfl), if_neg (ne (n := txt "TP") rfl)]
        rfl
      · exact insn_three_no _ _ _ ho fun z e => hy ⟨z, e⟩
  · exact insn_more _ _ _ _ _
end SlM
set_option linter.all false
set_option maxRecDepth 8000
set_option maxHeartbeats 2000000
namespace SlM
open Sf47
def binForm : Bin → Bytes
  | .logic _ _ => txt "bit"
  | _ => txt "word"
theorem bin_facts (o : Bin) : forms.lookup (binName o) = some [binForm o] ∧ putOff.contains (binName o) = true ∧ binOf (binName o) = some o ∧
    (binName o ≠ txt "LD" ∧ binName o ≠ txt "LDN" ∧ binName o ≠ txt "ST" ∧ binName o ≠ txt "STN" ∧ binName o ≠ txt "S" ∧ binName o ≠ txt "R" ∧ binName o ≠ txt "JMP" ∧ binName o ≠ txt "JMPC" ∧ binName o ≠ txt "JMPCN" ∧ binName o ≠ txt "RC" ∧ binName o ≠ txt "UP" ∧ binName o ≠ txt "DOWN") ∧
    (binName o ≠ txt "NOT" ∧ binName o ≠ txt "RET" ∧ binName o ≠ txt "RETC") ∧ binName o ≠ txt "CTU" ∧ binName o ≠ txt "TON" ∧ binName o ≠ txt "TOF" ∧ binName o ≠ txt "TP" := by
  rcases o with (⟨_ | _ | _, _ | _⟩ | (_ | _ | _ | _ | _) | (_ | _ | _ | _ | _ | _)) <;> decide +kernel
theorem ins_bin (o : Bin) (t : List Sign) : readIns (.word (binName o) :: t) = (insn (.word (binName o) :: t)).map insKV := by
  obtain ⟨f1, f2, f3, ⟨a1, a2, a3, a4, a5, a6, a7, a8, a9, a10, a11, a12⟩, ⟨b1, b2, b3⟩, c1, c2, c3, c4⟩ := bin_facts o
  rcases t with _ | ⟨x, _ | ⟨y, _ | ⟨z, r⟩⟩⟩
  · rw [ins_plain f1 (fun _ h => by cases h), ops_len (by simp), insn_one, if_neg b1, if_neg b2, if_neg b3]
    rfl
  · rw [insn_two, if_neg a1, if_neg a2, if_neg a3, if_neg a4, if_neg a5, if_neg a6, if_neg (fun q => q.elim a7 fun q => q.elim a8 a9), if_neg a10, if_neg a11, if_neg a12, f3]
    by_cases ho : x = .open_
    · subst ho
      rw [ins_paren f1, if_pos f2, ops_len (by simp)]
      rfl
    · rw [ins_plain f1 (fun _ h => ho (List.cons.inj h).1), ops_one]
      cases o with
      | logic p n =>
        rw [show binForm (.logic p n) = txt "bit" from rfl, readOp_bit]
        unfold bitSign
        rcases operand x with _ | (b | w) <;> rfl
      | arith p =>
        rw [show binForm (.arith p) = txt "word" from rfl, readOp_word]
        rcases operand x with _ | (b | w) <;> rfl
      | cmp p =>
        rw [show binForm (.cmp p) = txt "word" from rfl, readOp_word]
        rcases operand x with _ | (b | w) <;> rfl
  · by_cases ho : x = .open_
    · subst ho
      rw [ins_paren f1, if_pos f2, ops_one, insn_open, f3, readOp_any]
      cases operand y <;> rfl
    · rw [ins_plain f1 (fun _ h => ho (List.cons.inj h).1), ops_len (by simp)]
      by_cases hy : ∃ z, y = .num z
      · obtain ⟨z, rfl⟩ := hy
        rw [insn_three _ _ _ ho, if_neg c1, if_neg c2, if_neg c3, if_neg c4]
        rfl
      · rw [insn_three_no _ _ _ ho fun z e => hy ⟨z, e⟩]
        rfl
  · rw [insn_more]
    by_cases ho : x = .open_
    · subst ho
      rw [ins_paren f1, if_pos f2, ops_len (by simp)]
      rfl
    · rw [ins_plain f1 (fun _ h => ho (List.cons.inj h).1), ops_len (by simp)]
      rfl
/-- a name that can't be put off, with at most one operand -/
theorem ins_other {w : Bytes} {fs : List Bytes} (f1 : forms.lookup w = some fs) (f2 : ¬ putOff.contains w = true) (hl : fs.length ≤ 1) (hc : ¬ w = txt "CTU" ∧ ¬ w = txt "TON" ∧ ¬ w = txt "TOF" ∧ ¬ w = txt "TP")
    (h0 : (readOps [] fs).map (fun l => (w, false, l)) = (insn [.word w]).map insKV) (h1 : ∀ x, x ≠ .open_ → (readOps [x] fs).map (fun l => (w, false, l)) = (insn [.word w, x]).map insKV) (h1o : insn [.word w, .open_] = none) (t : List Sign) :
    readIns (.word w :: t) = (insn (.word w :: t)).map insKV := by
  rcases t with _ | ⟨x, _ | ⟨y, _ | ⟨z, r⟩⟩⟩
  · rw [ins_plain f1 (fun _ h => by cases h)]
    exact h0
  · by_cases ho : x = .open_
    · subst ho
      rw [ins_paren f1, if_neg f2, h1o]
      rfl
    · rw [ins_plain f1 (fun _ h => ho (List.cons.inj h).1)]
      exact h1 x ho
  · by_cases ho : x = .open_
    · subst ho
      rw [ins_paren f1, if_neg f2, insn_open, bin_none f2]
      rfl
    · rw [ins_plain f1 (fun _ h => ho (List.cons.inj h).1), ops_len (by simp; omega)]
      by_cases hy : ∃ z, y = .num z
      · obtain ⟨z, rfl⟩ := hy
        rw [insn_three _ _ _ ho, if_neg hc.1, if_neg hc.2.1, if_neg hc.2.2.1, if_neg hc.2.2.2]
        rfl
      · rw [insn_three_no _ _ _ ho fun z e => hy ⟨z, e⟩]
        rfl
  · rw [insn_more]
    by_cases ho : x = .open_
    · subst ho
      rw [ins_paren f1, if_neg f2]
      rfl
    · rw [ins_plain f1 (fun _ h => ho (List.cons.inj h).1), ops_len (by simp; omega)]
      rfl
/-- a name with two operands -/
theorem ins_pair {w : Bytes} {f g : Bytes} (f1 : forms.lookup w = some [f, g]) (f2 : ¬ putOff.contains w = true) (h0 : insn [.word w] = none) (h1 : ∀ x, insn [.word w, x] = none)
    (h2 : ∀ x y, x ≠ .open_ → (readOps [x, y] [f, g]).map (fun l => (w, false, l)) = (insn [.word w, x, y]).map insKV) (t : List Sign) :
    readIns (.word w :: t) = (insn (.word w :: t)).map insKV := by
  rcases t with _ | ⟨x, _ | ⟨y, _ | ⟨z, r⟩⟩⟩
  · rw [ins_plain f1 (fun _ h => by cases h), ops_len (by simp), h0]
    rfl
  · rw [h1]
    by_cases ho : x = .open_
    · subst ho
      rw [ins_paren f1, if_neg f2]
      rfl
    · rw [ins_plain f1 (fun _ h => ho (List.cons.inj h).1), ops_len (by simp)]
      rfl
  · by_cases ho : x = .open_
    · subst ho
      rw [ins_paren f1, if_neg f2, insn_open, bin_none f2]
      rfl
    · rw [ins_plain f1 (fun _ h => ho (List.cons.inj h).1)]
      exact h2 x y ho
  · rw [insn_more]
    by_cases ho : x = .open_
    · subst ho
      rw [ins_paren f1, if_neg f2]
      rfl
    · rw [ins_plain f1 (fun _ h => ho (List.cons.inj h).1), ops_len (by simp)]
      rfl
theorem h0_none {w f : Bytes} (h : insn [.word w] = none) : (readOps [] [f]).map (fun l => (w, false, l)) = (insn [.word w]).map insKV := by
  rw [h]
  rfl
theorem ins_LD (t : List Sign) : readIns (.word (txt "LD") :: t) = (insn (.word (txt "LD") :: t)).map insKV := by
  refine ins_other (fs := [txt "any"]) (by decide +kernel) (by decide +kernel) (by decide) (by decide +kernel) (h0_none (by decide +kernel)) (fun x _ => ?_) (by decide +kernel) t
  rw [ops_one, readOp_any, insn_two, if_pos rfl]
  cases operand x <;> rfl
theorem ins_LDN (t : List Sign) : readIns (.word (txt "LDN") :: t) = (insn (.word (txt "LDN") :: t)).map insKV := by
  refine ins_other (fs := [txt "bit"]) (by decide +kernel) (by decide +kernel) (by decide) (by decide +kernel) (h0_none (by decide +kernel)) (fun x _ => ?_) (by decide +kernel) t
  rw [ops_one, readOp_bit, insn_two, if_neg (by decide +kernel), if_pos rfl]
  cases bitSign x <;> rfl
theorem ins_ST (t : List Sign) : readIns (.word (txt "ST") :: t) = (insn (.word (txt "ST") :: t)).map insKV := by
  refine ins_other (fs := [txt "stored"]) (by decide +kernel) (by decide +kernel) (by decide) (by decide +kernel) (h0_none (by decide +kernel)) (fun x _ => ?_) (by decide +kernel) t
  rw [ops_one, readOp_stored, insn_two, if_neg (by decide +kernel), if_neg (by decide +kernel), if_pos rfl]
  cases target x with
  | some b => rfl
  | none => cases named x 87 256 <;> rfl
theorem ins_STN (t : List Sign) : readIns (.word (txt "STN") :: t) = (insn (.word (txt "STN") :: t)).map insKV := by
  refine ins_other (fs := [txt "stored bit"]) (by decide +kernel) (by decide +kernel) (by decide) (by decide +kernel) (h0_none (by decide +kernel)) (fun x _ => ?_) (by decide +kernel) t
  rw [ops_one, readOp_sbit, insn_two, if_neg (by decide +kernel), if_neg (by decide +kernel), if_neg (by decide +kernel), if_pos rfl]
  cases target x <;> rfl
theorem ins_S (t : List Sign) : readIns (.word (txt "S") :: t) = (insn (.word (txt "S") :: t)).map insKV := by
  refine ins_other (fs := [txt "stored bit"]) (by decide +kernel) (by decide +kernel) (by decide) (by decide +kernel) (h0_none (by decide +kernel)) (fun x _ => ?_) (by decide +kernel) t
  rw [ops_one, readOp_sbit, insn_two, if_neg (by decide +kernel), if_neg (by decide +kernel), if_neg (by decide +kernel), if_neg (by decide +kernel), if_pos rfl]
  cases target x <;> rfl
theorem ins_R (t : List Sign) : readIns (.word (txt "R") :: t) = (insn (.word (txt "R") :: t)).map insKV := by
  refine ins_other (fs := [txt "stored bit"]) (by decide +kernel) (by decide +kernel) (by decide) (by decide +kernel) (h0_none (by decide +kernel)) (fun x _ => ?_) (by decide +kernel) t
  rw [ops_one, readOp_sbit, insn_two, if_neg (by decide +kernel), if_neg (by decide +kernel), if_neg (by decide +kernel), if_neg (by decide +kernel), if_neg (by decide +kernel), if_pos rfl]
  cases target x <;> rfl
theorem two_jump (x : Sign) {w : Bytes} (h : w = txt "JMP" ∨ w = txt "JMPC" ∨ w = txt "JMPCN") : insn [.word w, x] = match x with
      | .word l => some (.jmp (if w = txt "JMP" then .always else if w = txt "JMPC" then .one else .zero) l)
      | _ => none := by
  have ne : w ≠ txt "LD" ∧ w ≠ txt "LDN" ∧ w ≠ txt "ST" ∧ w ≠ txt "STN" ∧ w ≠ txt "S" ∧ w ≠ txt "R" := by
    rcases h with rfl | rfl | rfl <;> decide +kernel
  rw [insn_two, if_neg ne.1, if_neg ne.2.1, if_neg ne.2.2.1, if_neg ne.2.2.2.1, if_neg ne.2.2.2.2.1, if_neg ne.2.2.2.2.2, if_pos h]
  all_goals (cases x <;> rfl)
theorem ins_JMP (t : List Sign) : readIns (.word (txt "JMP") :: t) = (insn (.word (txt "JMP") :: t)).map insKV := by
  refine ins_other (fs := [txt "label"]) (by decide +kernel) (by decide +kernel) (by decide) (by decide +kernel) (h0_none (by decide +kernel)) (fun x _ => ?_) (by decide +kernel) t
  rw [ops_one, readOp_label, two_jump x (.inl rfl), if_pos rfl]
  cases x <;> rfl
theorem ins_JMPC (t : List Sign) : readIns (.word (txt "JMPC") :: t) = (insn (.word (txt "JMPC") :: t)).map insKV := by
  refine ins_other (fs := [txt "label"]) (by decide +kernel) (by decide +kernel) (by decide) (by decide +kernel) (h0_none (by decide +kernel)) (fun x _ => ?_) (by decide +kernel) t
  rw [ops_one, readOp_label, two_jump x (.inr (.inl rfl)), if_neg (by decide +kernel), if_pos rfl]
  cases x <;> rfl
theorem ins_JMPCN (t : List Sign) : readIns (.word (txt "JMPCN") :: t) = (insn (.word (txt "JMPCN") :: t)).map insKV := by
  refine ins_other (fs := [txt "label"]) (by decide +kernel) (by decide +kernel) (by decide) (by decide +kernel) (h0_none (by decide +kernel)) (fun x _ => ?_) (by decide +kernel) t
  rw [ops_one, readOp_label, two_jump x (.inr (.inr rfl)), if_neg (by decide +kernel), if_neg (by decide +kernel)]
  cases x <;> rfl
theorem ins_RC (t : List Sign) : readIns (.word (txt "RC") :: t) = (insn (.word (txt "RC") :: t)).map insKV := by
  refine ins_other (fs := [txt "counter"]) (by decide +kernel) (by decide +kernel) (by decide) (by decide +kernel) (h0_none (by decide +kernel)) (fun x _ => ?_) (by decide +kernel) t
  rw [ops_one, readOp_counter, insn_two, if_neg (by decide +kernel), if_neg (by decide +kernel), if_neg (by decide +kernel), if_neg (by decide +kernel), if_neg (by decide +kernel), if_neg (by decide +kernel), if_neg (by decide +kernel), if_pos rfl]
  cases named x 67 32 <;> rfl
theorem ins_UP (t : List Sign) : readIns (.word (txt "UP") :: t) = (insn (.word (txt "UP") :: t)).map insKV := by
  refine ins_other (fs := [txt "edge"]) (by decide +kernel) (by decide +kernel) (by decide) (by decide +kernel) (h0_none (by decide +kernel)) (fun x _ => ?_) (by decide +kernel) t
  rw [ops_one, readOp_edge, insn_two, if_neg (by decide +kernel), if_neg (by decide +kernel), if_neg (by decide +kernel), if_neg (by decide +kernel), if_neg (by decide +kernel), if_neg (by decide +kernel), if_neg (by decide +kernel), if_neg (by decide +kernel), if_pos rfl]
  cases named x 77 256 <;> rfl
theorem ins_DOWN (t : List Sign) : readIns (.word (txt "DOWN") :: t) = (insn (.word (txt "DOWN") :: t)).map insKV := by
  refine ins_other (fs := [txt "edge"]) (by decide +kernel) (by decide +kernel) (by decide) (by decide +kernel) (h0_none (by decide +kernel)) (fun x _ => ?_) (by decide +kernel) t
  rw [ops_one, readOp_edge, insn_two, if_neg (by decide +kernel), if_neg (by decide +kernel), if_neg (by decide +kernel), if_neg (by decide +kernel), if_neg (by decide +kernel), if_neg (by decide +kernel), if_neg (by decide +kernel), if_neg (by decide +kernel), if_neg (by decide +kernel), if_pos rfl]
  cases named x 77 256 <;> rfl
/-- words that name none of insn_two's, for a word that is no bin -/
theorem two_none {w : Bytes} (h : w = txt "NOT" ∨ w = txt "RET" ∨ w = txt "RETC" ∨ w = txt ")" ∨ w = txt "TON" ∨ w = txt "TOF" ∨ w = txt "TP" ∨ w = txt "CTU") (x : Sign) : insn [.word w, x] = none := by
  have ne : (w ≠ txt "LD" ∧ w ≠ txt "LDN" ∧ w ≠ txt "ST" ∧ w ≠ txt "STN" ∧ w ≠ txt "S" ∧ w ≠ txt "R") ∧ ¬ (w = txt "JMP" ∨ w = txt "JMPC" ∨ w = txt "JMPCN") ∧ w ≠ txt "RC" ∧ w ≠ txt "UP" ∧ w ≠ txt "DOWN" ∧ binOf w = none := by
    rcases h with rfl | rfl | rfl | rfl | rfl | rfl | rfl | rfl <;> decide +kernel
  obtain ⟨⟨n1, n2, n3, n4, n5, n6⟩, n7, n8, n9, n10, n11⟩ := ne
  rw [insn_two, if_neg n1, if_neg n2, if_neg n3, if_neg n4, if_neg n5, if_neg n6, if_neg n7, if_neg n8, if_neg n9, if_neg n10, n11]
  rfl
theorem ins_bare {w : Bytes} (h : w = txt "NOT" ∨ w = txt "RET" ∨ w = txt "RETC") (t : List Sign) : readIns (.word w :: t) = (insn (.word w :: t)).map insKV := by
  have h' : w = txt "NOT" ∨ w = txt "RET" ∨ w = txt "RETC" ∨ w = txt ")" ∨ w = txt "TON" ∨ w = txt "TOF" ∨ w = txt "TP" ∨ w = txt "CTU" := by
    rcases h with h | h | h
    · exact .inl h
    · exact .inr (.inl h)
    · exact .inr (.inr (.inl h))
  have fs : forms.lookup w = some [] ∧ ¬ putOff.contains w = true ∧ (¬ w = txt "CTU" ∧ ¬ w = txt "TON" ∧ ¬ w = txt "TOF" ∧ ¬ w = txt "TP") := by
    rcases h with rfl | rfl | rfl <;> decide +kernel
  refine ins_other (fs := []) fs.1 fs.2.1 (by decide) fs.2.2 ?_ (fun x _ => ?_) (two_none h' _) t
  · rcases h with rfl | rfl | rfl
    · rw [insn_one, if_pos rfl]
      rfl
    · rw [insn_one, if_neg (by decide +kernel), if_pos rfl]
      rfl
    · rw [insn_one, if_neg (by decide +kernel), if_neg (by decide +kernel), if_pos rfl]
      rfl
  · rw [two_none h', ops_len (by simp)]
    rfl
theorem ins_CTU (t : List Sign) : readIns (.word (txt "CTU") :: t) = (insn (.word (txt "CTU") :: t)).map insKV := by
  refine ins_pair (f := txt "counter") (g := txt "number") (by decide +kernel) (by decide +kernel) (by decide +kernel) (two_none (by simp)) (fun x y ho => ?_) t
  rw [ops_two, readOp_counter, readOp_number]
  by_cases hy : ∃ z, y = .num z
  · obtain ⟨z, rfl⟩ := hy
    rw [insn_three _ _ _ ho, if_pos rfl]
    cases named x 67 32 <;> rfl
  · rw [insn_three_no _ _ _ ho fun z e => hy ⟨z, e⟩]
    cases y with
    | num z => exact absurd ⟨z, rfl⟩ hy
    | _ => cases named x 67 32 <;> rfl
theorem ins_timer {w : Bytes} {k : Timer} (h : w = txt "TON" ∨ w = txt "TOF" ∨ w = txt "TP")
    (hk : (if w = txt "TON" then some Timer.ton else if w = txt "TOF" then some .tof else if w = txt "TP" then some .tp else none) = some k) (hn : ∀ t v, insKV (.timer k t v) = (w, false, [E (.inl (.t t)), (txt "number", .inr (v : Int))])) (t : List Sign) :
    readIns (.word w :: t) = (insn (.word w :: t)).map insKV := by
  have fs : forms.lookup w = some [txt "timer", txt "duration"] ∧ ¬ putOff.contains w = true ∧ insn [.word w] = none ∧ ¬ w = txt "CTU" := by
    rcases h with rfl | rfl | rfl <;> decide +kernel
  have h' : w = txt "NOT" ∨ w = txt "RET" ∨ w = txt "RETC" ∨ w = txt ")" ∨ w = txt "TON" ∨ w = txt "TOF" ∨ w = txt "TP" ∨ w = txt "CTU" := by
    rcases h with h | h | h
    · exact .inr (.inr (.inr (.inr (.inl h))))
    · exact .inr (.inr (.inr (.inr (.inr (.inl h)))))
    · exact .inr (.inr (.inr (.inr (.inr (.inr (.inl h))))))
  refine ins_pair fs.1 fs.2.1 fs.2.2.1 (two_none h') (fun x y ho => ?_) t
  rw [ops_two, readOp_timer, readOp_duration]
  by_cases hy : ∃ z, y = .num z
  · obtain ⟨z, rfl⟩ := hy
    rw [insn_three _ _ _ ho, if_neg fs.2.2.2, hk]
    cases named x 84 32 with
    | none => rfl
    | some n =>
      by_cases c : 0 ≤ z
      · show ((if 0 ≤ z then some ((txt "number", Sum.inr z) : Opd) else none).map fun p => [E (.inl (.t n)), p]).map _ = (if 0 ≤ z then some (Insn.timer k n z.toNat) else none).map insKV
        rw [if_pos c, if_pos c]
        show some (w, false, [E (.inl (.t n)), (txt "number", Sum.inr z)]) = some (insKV (.timer k n z.toNat))
        rw [hn, Int.toNat_of_nonneg c]
      · show ((if 0 ≤ z then some ((txt "number", Sum.inr z) : Opd) else none).map fun p => [E (.inl (.t n)), p]).map _ = (if 0 ≤ z then some (Insn.timer k n z.toNat) else none).map insKV
        rw [if_neg c, if_neg c]
        rfl
  · rw [insn_three_no _ _ _ ho fun z e => hy ⟨z, e⟩]
    cases y with
    | num z => exact absurd ⟨z, rfl⟩ hy
    | _ => cases named x 84 32 <;> rfl
theorem ins_no {s : Sign} {t : List Sign} {n : Bytes} (h : textOf s = some n) (hl : forms.lookup n = none) : readIns (s :: t) = none := by
  simp only [readIns, h, hl, Option.bind_some, Option.bind_none]
/-- **the program reads an instruction as the specification does** -/
theorem ins_is (ss : List Sign) (h : ∀ w r, ss = .word w :: r → w ≠ txt ")") (hne : ss ≠ []) : readIns ss = (insn ss).map insKV := by
  cases ss with
  | nil => exact absurd rfl hne
  | cons s t =>
    cases s with
    | num z => rfl
    | colon =>
      rw [ins_no (n := [58]) rfl (by decide +kernel)]
      rfl
    | open_ =>
      rw [ins_no (n := [40]) rfl (by decide +kernel)]
      rfl
    | close =>
      have e : forms.lookup ([41] : Bytes) = some [] := by decide +kernel
      cases t with
      | nil =>
        simp only [readIns, textOf, e, Option.bind_some]
        rfl
      | cons x r =>
        have o : ¬ putOff.contains ([41] : Bytes) = true := by decide +kernel
        cases x with
        | open_ =>
          simp only [readIns, textOf, e, Option.bind_some, if_neg o]
          rfl
        | _ =>
          simp only [readIns, textOf, e, Option.bind_some]
          rfl
    | word w =>
      have hw := h w t rfl
      cases q : forms.lookup w with
      | none =>
        rw [ins_unknown q, ins_no (n := w) rfl q]
        rfl
      | some fs =>
        have m : w ∈ forms.map (·.1) := by
          have key : ∀ (l : List (Bytes × List Bytes)), l.lookup w = some fs → w ∈ l.map (·.1) := by
            intro l
            induction l with
            | nil => intro h; cases h
            | cons p r ih =>
              intro h
              rw [List.lookup_cons] at h
              rw [List.map_cons]
              cases c : (w == p.1) with
              | true =>
                rw [beq_iff_eq.mp c]
                exact List.mem_cons_self
              | false =>
                rw [c] at h
                exact List.mem_cons_of_mem _ (ih h)
          exact key _ q
        unfold forms at m
        simp only [List.map_cons, List.map_nil, List.mem_cons, List.not_mem_nil, or_false] at m
        rcases m with rfl | rfl | rfl | rfl | rfl | rfl | rfl | rfl | rfl | rfl | rfl | rfl | rfl | rfl | rfl | rfl | rfl | rfl | rfl | rfl | rfl | rfl | rfl | rfl | rfl | rfl | rfl | rfl | rfl | rfl | rfl | rfl | rfl | rfl | rfl | rfl | rfl
        · exact ins_LD t
        · exact ins_LDN t
        · exact ins_ST t
        · exact ins_STN t
        · exact ins_S t
        · exact ins_R t
        · exact ins_bare (.inl rfl) t
        · exact ins_bin (.logic .and false) t
        · exact ins_bin (.logic .or false) t
        · exact ins_bin (.logic .xor false) t
        · exact ins_bin (.logic .and true) t
        · exact ins_bin (.logic .or true) t
        · exact ins_bin (.logic .xor true) t
        · exact ins_bin (.arith .add) t
        · exact ins_bin (.arith .sub) t
        · exact ins_bin (.arith .mul) t
        · exact ins_bin (.arith .div) t
        · exact ins_bin (.arith .mod) t
        · exact ins_bin (.cmp .gt) t
        · exact ins_bin (.cmp .ge) t
        · exact ins_bin (.cmp .eq) t
        · exact ins_bin (.cmp .ne) t
        · exact ins_bin (.cmp .le) t
        · exact ins_bin (.cmp .lt) t
        · exact absurd rfl hw
        · exact ins_JMP t
        · exact ins_JMPC t
        · exact ins_JMPCN t
        · exact ins_bare (.inr (.inl rfl)) t
        · exact ins_bare (.inr (.inr rfl)) t
        · exact ins_timer (k := .ton) (.inl rfl) (by decide +kernel) (fun _ _ => rfl) t
        · exact ins_timer (k := .tof) (.inr (.inl rfl)) (by decide +kernel) (fun _ _ => rfl) t
        · exact ins_timer (k := .tp) (.inr (.inr rfl)) (by decide +kernel) (fun _ _ => rfl) t
        · exact ins_CTU t
        · exact ins_RC t
        · exact ins_UP t
        · exact ins_DOWN t
end SlM
set_option linter.all false
set_option maxRecDepth 8000
set_option maxHeartbeats 1000000
namespace SlM
open Sf47
/-! ### lines as the program has them: a label or none, an instruction or none -/
abbrev PLine := Option Bytes × Option Insn
def insOf (s : List Sign) : Option (Option Insn) := if s = [] then some none else (insn s).map some
def readLine (b : Bytes) : Option PLine := if 255 < b.length then none else (sg b).bind fun s => match s with
  | .word w :: .colon :: r => if taken w = true then none else (insOf r).map fun i => (some w, i)
  | _ => (insOf s).map fun i => (none, i)
def hasInside : Option Insn → Bool
  | none => true
  | some i => inside i
/-- how many are open behind the line -/
def depthStep (pl : PLine) (d : Nat) : Option Nat := if d ≠ 0 ∧ (pl.1.isSome = true ∨ hasInside pl.2 = false) then none else match pl.2 with
  | some (.open_ _ _) => if 8 < d + 1 then none else some (d + 1)
  | some .close => if d = 0 then none else some (d - 1)
  | _ => some d
def stepTo (p : Prog) (k : Nat) (pl : PLine) (d : Nat) : Prog :=
  { code := p.code ++ (match pl.2 with | some i => [(k, i)] | none => []), labels := p.labels ++ (match pl.1 with | some w => [(w, p.code.length, k)] | none => []), depth := d }
def dOf (i : Insn) (d : Nat) : Nat := match i with
  | .open_ _ _ => d + 1
  | .close => d - 1
  | _ => d
theorem insn_eq (p : Prog) (k : Nat) (s : List Sign) : p.insn k s = if s = [] then some p else (insn s).bind fun i =>
    if (i = .close ∧ p.depth = 0) ∨ 8 < dOf i p.depth ∨ (p.depth ≠ 0 ∧ inside i = false) ∨ 4096 ≤ p.code.length then none else some { p with code := p.code ++ [(k, i)], depth := dOf i p.depth } := rfl
theorem depth_none (lab : Option Bytes) (d : Nat) : depthStep (lab, none) d = if d ≠ 0 ∧ lab.isSome = true then none else some d := by
  unfold depthStep
  by_cases c : d ≠ 0 ∧ lab.isSome = true
  · rw [if_pos c, if_pos ⟨c.1, .inl c.2⟩]
  · rw [if_neg c, if_neg (fun q => c ⟨q.1, q.2.elim id fun z => by cases z⟩)]
theorem depth_some (lab : Option Bytes) (i : Insn) (d : Nat) (h8 : d ≤ 8) : depthStep (lab, some i) d = if d ≠ 0 ∧ (lab.isSome = true ∨ inside i = false) then none else if i = .close ∧ d = 0 then none else if 8 < dOf i d then none else some (dOf i d) := by
  unfold depthStep
  by_cases c : d ≠ 0 ∧ (lab.isSome = true ∨ inside i = false)
  · have c' : d ≠ 0 ∧ ((lab, some i).1.isSome = true ∨ hasInside (lab, some i).2 = false) := c
    rw [if_pos c, if_pos c']
  · have c' : ¬ (d ≠ 0 ∧ ((lab, some i).1.isSome = true ∨ hasInside (lab, some i).2 = false)) := c
    rw [if_neg c, if_neg c']
    cases i with
    | open_ o x =>
      show (if 8 < d + 1 then none else some (d + 1)) = if (Insn.open_ o x = .close ∧ d = 0) then none else if 8 < d + 1 then none else some (d + 1)
      rw [if_neg (c := Insn.open_ o x = .close ∧ d = 0) (fun q => by cases q.1)]
    | close =>
      show (if d = 0 then none else some (d - 1)) = if (Insn.close = .close ∧ d = 0) then none else if 8 < d - 1 then none else some (d - 1)
      by_cases m : d = 0
      · rw [if_pos m, if_pos ⟨rfl, m⟩]
      · rw [if_neg m, if_neg (fun q => m q.2), if_neg (by omega)]
    | _ =>
      show some d = if (_ = Insn.close ∧ d = 0) then none else if 8 < d then none else some d
      rw [if_neg (fun q => by cases q.1), if_neg (by omega)]
theorem insn_is (p : Prog) (k : Nat) (s : List Sign) (h8 : p.depth ≤ 8) : p.insn k s = (insOf s).bind fun i => (depthStep (none, i) p.depth).bind fun d => if i.isSome = true ∧ 4096 ≤ p.code.length then none else some (stepTo p k (none, i) d) := by
  rw [insn_eq]
  unfold insOf
  by_cases e : s = []
  · rw [if_pos e, if_pos e, Option.bind_some, depth_none, if_neg (fun q => by cases q.2), Option.bind_some, if_neg (fun q => by cases q.1)]
    unfold stepTo
    simp
  · rw [if_neg e, if_neg e]
    cases q : insn s with
    | none => rfl
    | some i =>
      rw [Option.bind_some, Option.map_some, Option.bind_some, depth_some none i p.depth h8]
      by_cases c3 : p.depth ≠ 0 ∧ inside i = false
      · rw [if_pos (.inr (.inr (.inl c3))), if_pos ⟨c3.1, .inr c3.2⟩]
        rfl
      rw [if_neg (c := p.depth ≠ 0 ∧ ((none : Option Bytes).isSome = true ∨ inside i = false)) (fun q => c3 ⟨q.1, q.2.elim (fun z => by cases z) id⟩)]
      by_cases c1 : i = .close ∧ p.depth = 0
      · rw [if_pos (.inl c1), if_pos c1]
        rfl
      rw [if_neg c1]
      by_cases c2 : 8 < dOf i p.depth
      · rw [if_pos (.inr (.inl c2)), if_pos c2]
        rfl
      rw [if_neg c2, Option.bind_some]
      by_cases c4 : 4096 ≤ p.code.length
      · rw [if_pos (.inr (.inr (.inr c4))), if_pos ⟨rfl, c4⟩]
      · rw [if_neg (fun q => q.elim c1 fun q => q.elim c2 fun q => q.elim c3 c4), if_neg (fun q => c4 q.2)]
        unfold stepTo
        simp
theorem insn_nonword {s : Sign} {r : List Sign} (h : ∀ w, s ≠ .word w) : insn (s :: .colon :: r) = none := by
  cases s with
  | word w => exact absurd rfl (h w)
  | _ => rfl
theorem line_is (p : Prog) (k : Nat) (b : Bytes) (h8 : p.depth ≤ 8) : p.line k b = (readLine b).bind fun pl => (depthStep pl p.depth).bind fun d => if pl.2.isSome = true ∧ 4096 ≤ p.code.length then none else some (stepTo p k pl d) := by
  rw [line_sg]
  unfold readLine
  by_cases l : 255 < b.length
  · rw [if_pos l, if_pos l]
    rfl
  rw [if_neg l, if_neg l]
  cases sg b with
  | none => rfl
  | some s =>
    have plain : ∀ s : List Sign, p.insn k s = ((insOf s).map fun i => ((none, i) : PLine)).bind fun pl => (depthStep pl p.depth).bind fun d => if pl.2.isSome = true ∧ 4096 ≤ p.code.length then none else some (stepTo p k pl d) := fun s => by
      rw [insn_is p k s h8]
      cases insOf s <;> rfl
    have lab : ∀ (w : Bytes) (r : List Sign), ((p.label k w).bind fun q => q.insn k r) = (if taken w = true then none else (insOf r).map fun i => ((some w, i) : PLine)).bind fun pl => (depthStep pl p.depth).bind fun d => if pl.2.isSome = true ∧ 4096 ≤ p.code.length then none else some (stepTo p k pl d) := fun w r => by
      unfold Prog.label
      by_cases t : taken w = true
      · rw [if_pos (.inl t), if_pos t]
        rfl
      rw [if_neg t]
      by_cases d0 : p.depth ≠ 0
      · rw [if_pos (.inr d0)]
        cases insOf r with
        | none => rfl
        | some i =>
          show none = (depthStep (some w, i) p.depth).bind _
          unfold depthStep
          rw [if_pos ⟨d0, .inl rfl⟩]
          rfl
      · rw [if_neg (fun q => q.elim t d0)]
        show Prog.insn { p with labels := p.labels ++ [(w, p.code.length, k)] } k r = _
        rw [insn_is { p with labels := p.labels ++ [(w, p.code.length, k)] } k r h8]
        cases insOf r with
        | none => rfl
        | some i =>
          show (depthStep (none, i) p.depth).bind _ = (depthStep (some w, i) p.depth).bind _
          have e : depthStep (some w, i) p.depth = depthStep (none, i) p.depth := by
            cases i with
            | none => rw [depth_none, depth_none, if_neg (fun q => d0 q.1), if_neg (fun q => d0 q.1)]
            | some i => rw [depth_some _ _ _ h8, depth_some _ _ _ h8, if_neg (c := p.depth ≠ 0 ∧ _) (fun q => d0 q.1), if_neg (c := p.depth ≠ 0 ∧ _) (fun q => d0 q.1)]
          rw [e]
          cases depthStep (none, i) p.depth with
          | none => rfl
          | some d =>
            show (if _ then none else some (stepTo _ k (none, i) d)) = if _ then none else some (stepTo p k (some w, i) d)
            have e2 : stepTo { p with labels := p.labels ++ [(w, p.code.length, k)] } k (none, i) d = stepTo p k (some w, i) d := by
              unfold stepTo
              simp
            rw [e2]
    show (match s with
      | .word w :: .colon :: r => (p.label k w).bind fun q => q.insn k r
      | _ => p.insn k s) = (match s with
      | .word w :: .colon :: r => if taken w = true then none else (insOf r).map fun i => ((some w, i) : PLine)
      | _ => (insOf s).map fun i => ((none, i) : PLine)).bind _
    split
    · exact lab _ _
    · exact plain s
/-! ### the lines read so far, as the specification's program -/
def progOf : List PLine → List Nat → Prog
  | pls, ds => (pls.zip ds).foldl (fun (q : Prog × Nat) x => (stepTo q.1 q.2 x.1 x.2, q.2 + 1)) (⟨[], [], 0⟩, 1) |>.1
/-- the code, the labels of lines from line k on, n instructions being before -/
def codeOf : Nat → List PLine → List (Nat × Insn)
  | _, [] => []
  | k, pl :: r => (match pl.2 with | some i => [(k, i)] | none => []) ++ codeOf (k + 1) r
def labsOf : Nat → Nat → List PLine → List (Bytes × Nat × Nat)
  | _, _, [] => []
  | k, n, pl :: r => (match pl.1 with | some w => [(w, n, k)] | none => []) ++ labsOf (k + 1) (n + (match pl.2 with | some _ => 1 | none => 0)) r
theorem code_snoc : ∀ (l : List PLine) (k : Nat) (pl : PLine), codeOf k (l ++ [pl]) = codeOf k l ++ (match pl.2 with | some i => [(k + l.length, i)] | none => [])
  | [], k, pl => by
    show codeOf k [pl] = _
    unfold codeOf codeOf
    simp
  | a :: r, k, pl => by
    show (match a.2 with | some i => [(k, i)] | none => []) ++ codeOf (k + 1) (r ++ [pl]) = ((match a.2 with | some i => [(k, i)] | none => []) ++ codeOf (k + 1) r) ++ _
    rw [code_snoc r (k + 1) pl, List.append_assoc, List.length_cons, show k + 1 + r.length = k + (r.length + 1) from by omega]
theorem code_len : ∀ (l : List PLine) (k : Nat), (codeOf k l).length = (l.filter fun pl => pl.2.isSome).length
  | [], _ => rfl
  | a :: r, k => by
    obtain ⟨x, i⟩ := a
    show ((match i with | some i => [(k, i)] | none => []) ++ codeOf (k + 1) r).length = _
    rw [List.length_append, code_len r, List.filter_cons]
    cases i with
    | none => simp
    | some j => simp; omega
theorem labs_snoc : ∀ (l : List PLine) (k n : Nat) (pl : PLine), labsOf k n (l ++ [pl]) = labsOf k n l ++ (match pl.1 with | some w => [(w, n + (codeOf k l).length, k + l.length)] | none => [])
  | [], k, n, pl => by
    show labsOf k n [pl] = _
    unfold labsOf labsOf codeOf
    simp
  | a :: r, k, n, pl => by
    obtain ⟨x, i⟩ := a
    show (match x with | some w => [(w, n, k)] | none => []) ++ labsOf (k + 1) (n + (match i with | some _ => 1 | none => 0)) (r ++ [pl]) = ((match x with | some w => [(w, n, k)] | none => []) ++ labsOf (k + 1) (n + (match i with | some _ => 1 | none => 0)) r) ++ _
    rw [labs_snoc r, List.append_assoc]
    have e : (codeOf k ((x, i) :: r)).length = (match i with | some _ => 1 | none => 0) + (codeOf (k + 1) r).length := by
      show ((match i with | some i => [(k, i)] | none => []) ++ codeOf (k + 1) r).length = _
      rw [List.length_append]
      cases i <;> rfl
    rw [e, List.length_cons, show k + 1 + r.length = k + (r.length + 1) from by omega, Nat.add_assoc]
/-- the program of these lines, d being open -/
def prog (pls : List PLine) (d : Nat) : Prog := ⟨codeOf 1 pls, labsOf 1 0 pls, d⟩
theorem step_prog (pls : List PLine) (d : Nat) (pl : PLine) (d' : Nat) : stepTo (prog pls d) (pls.length + 1) pl d' = prog (pls ++ [pl]) d' := by
  unfold stepTo prog
  simp only
  rw [code_snoc, labs_snoc, Nat.zero_add, Nat.add_comm 1]
theorem fm_congr {α β : Type} {f g : α → Option β} : ∀ {l : List α}, (∀ x ∈ l, f x = g x) → l.filterMap f = l.filterMap g
  | [], _ => rfl
  | a :: r, h => by
    rw [List.filterMap_cons, List.filterMap_cons, h a List.mem_cons_self, fm_congr fun x hx => h x (List.mem_cons_of_mem _ hx)]
/-! ### labels that were before, jumps to none -/
def names (pls : List PLine) : List Bytes := pls.filterMap fun pl => pl.1
theorem labs_names : ∀ (l : List PLine) (k n : Nat), (labsOf k n l).map (·.1) = names l
  | [], _, _ => rfl
  | (x, i) :: r, k, n => by
    show ((match x with | some w => [(w, n, k)] | none => []) ++ labsOf (k + 1) _ r).map (·.1) = _
    rw [List.map_append, labs_names r]
    unfold names
    rw [List.filterMap_cons]
    cases x <;> rfl
/-- the i-th line is wrong -/
def Bad (pls : List PLine) (i : Nat) : Prop := ∃ x j, pls[i]? = some (x, j) ∧ ((∃ w, x = some w ∧ w ∈ names (pls.take i)) ∨ ∃ k l, j = some (.jmp k l) ∧ l ∉ names pls)
def dups (L : List (Bytes × Nat × Nat)) : List Nat := (List.range L.length).filterMap fun i => (L[i]?).bind fun x => if (L.take i).any (fun y => y.1 == x.1) = true then some x.2.2 else none
theorem dups_snoc (L : List (Bytes × Nat × Nat)) (x : Bytes × Nat × Nat) : dups (L ++ [x]) = dups L ++ (if L.any (fun y => y.1 == x.1) = true then [x.2.2] else []) := by
  unfold dups
  rw [List.length_append, List.length_singleton, List.range_succ, List.filterMap_append]
  congr 1
  · refine fm_congr fun i hi => ?_
    have hi : i < L.length := List.mem_range.mp hi
    rw [List.getElem?_append_left hi, List.take_append_of_le_length (Nat.le_of_lt hi)]
  · rw [List.filterMap_cons, List.filterMap_nil, List.getElem?_append_right (Nat.le_refl _), Nat.sub_self, List.take_left]
    rw [show (([x] : List (Bytes × Nat × Nat))[0]?) = some x from rfl, Option.bind_some]
    by_cases c : (L.any fun y => y.1 == x.1) = true
    · rw [if_pos c, if_pos c]
    · rw [if_neg c, if_neg c]
def lost (all : List Bytes) (c : List (Nat × Insn)) : List Nat := c.filterMap fun x => match x.2 with
  | .jmp _ l => if l ∈ all then none else some x.1
  | _ => none
theorem place_none (p : Prog) (w : Bytes) : (p.place w).isNone = true ↔ w ∉ p.labels.map (·.1) := by
  unfold Prog.place
  rw [Option.isNone_map, Option.isNone_iff_eq_none, List.find?_eq_none]
  constructor
  · intro h m
    obtain ⟨x, hx, e⟩ := List.mem_map.mp m
    exact h x hx (by simp [e])
  · intro h x hx e
    exact h (List.mem_map.mpr ⟨x, hx, by simpa using e⟩)
theorem wrong_eq (p : Prog) : p.wrong = dups p.labels ++ lost (p.labels.map (·.1)) p.code := by
  unfold Prog.wrong lost
  congr 1
  refine fm_congr fun x _ => ?_
  obtain ⟨n, i⟩ := x
  cases i with
  | jmp k l =>
    show (if (p.place l).isNone = true then some n else none) = if l ∈ p.labels.map (·.1) then none else some n
    by_cases m : l ∈ p.labels.map (·.1)
    · rw [if_pos m, if_neg (fun q => (place_none p l).mp q m)]
    · rw [if_neg m, if_pos ((place_none p l).mpr m)]
  | _ => rfl
/-- of the first n lines -/
theorem wrong_first (pls : List PLine) : ∀ n, n ≤ pls.length → ∀ x, x ∈ dups (labsOf 1 0 (pls.take n)) ++ lost (names pls) (codeOf 1 (pls.take n)) ↔ ∃ i, i < n ∧ x = i + 1 ∧ Bad pls i
  | 0, _, x => by
    constructor
    · intro h
      cases h
    · rintro ⟨i, hi, _⟩
      exact absurd hi (Nat.not_lt_zero i)
  | n + 1, hn, x => by
    have ih := wrong_first pls n (Nat.le_of_succ_le hn) x
    have hlt : n < pls.length := hn
    obtain ⟨lab, j, gn⟩ : ∃ lab j, pls[n]? = some ((lab, j) : PLine) := ⟨pls[n].1, pls[n].2, by rw [List.getElem?_eq_getElem hlt]⟩
    have tk : pls.take (n + 1) = pls.take n ++ [(lab, j)] := by rw [List.take_succ, gn]; rfl
    have ln : (pls.take n).length = n := by rw [List.length_take]; omega
    rw [tk, labs_snoc, code_snoc, ln, Nat.zero_add, Nat.add_comm 1 n]
    have c1 : x ∈ dups (labsOf 1 0 (pls.take n) ++ (match (lab, j).1 with | some w => [(w, (codeOf 1 (pls.take n)).length, n + 1)] | none => [])) ↔ x ∈ dups (labsOf 1 0 (pls.take n)) ∨ (x = n + 1 ∧ ∃ w, lab = some w ∧ w ∈ names (pls.take n)) := by
      cases lab with
      | none => simp
      | some w =>
        show x ∈ dups (_ ++ [_]) ↔ _
        rw [dups_snoc, List.mem_append]
        have e : ((labsOf 1 0 (pls.take n)).any fun y => y.1 == w) = true ↔ w ∈ names (pls.take n) := by
          rw [← labs_names (pls.take n) 1 0, List.any_eq_true, List.mem_map]
          constructor
          · rintro ⟨y, hy, q⟩
            exact ⟨y, hy, by simpa using q⟩
          · rintro ⟨y, hy, q⟩
            exact ⟨y, hy, by simpa using q⟩
        by_cases m : w ∈ names (pls.take n)
        · rw [if_pos (e.mpr m)]
          simp [m]
        · rw [if_neg (fun q => m (e.mp q))]
          simp [m]
    have c2 : x ∈ lost (names pls) (codeOf 1 (pls.take n) ++ (match (lab, j).2 with | some i => [(n + 1, i)] | none => [])) ↔ x ∈ lost (names pls) (codeOf 1 (pls.take n)) ∨ (x = n + 1 ∧ ∃ k l, j = some (.jmp k l) ∧ l ∉ names pls) := by
      unfold lost
      rw [List.filterMap_append, List.mem_append]
      cases j with
      | none => simp
      | some i =>
        cases i with
        | jmp k l =>
          by_cases m : l ∈ names pls
          · simp [m]
          · simp [m]
            exact or_congr Iff.rfl ⟨fun e => ⟨e, k, l, ⟨rfl, rfl⟩, m⟩, fun h => h.1⟩
        | _ => simp
    rw [List.mem_append, c1, c2]
    rw [List.mem_append] at ih
    have bn : Bad pls n ↔ ((∃ w, lab = some w ∧ w ∈ names (pls.take n)) ∨ ∃ k l, j = some (.jmp k l) ∧ l ∉ names pls) := by
      constructor
      · rintro ⟨x', j', e, h⟩
        rw [gn] at e
        cases e
        exact h
      · intro h
        exact ⟨lab, j, gn, h⟩
    constructor
    · rintro ((h | ⟨e, h⟩) | (h | ⟨e, h⟩))
      · obtain ⟨i, hi, r⟩ := ih.mp (.inl h)
        exact ⟨i, Nat.lt_succ_of_lt hi, r⟩
      · exact ⟨n, Nat.lt_succ_self n, e, bn.mpr (.inl h)⟩
      · obtain ⟨i, hi, r⟩ := ih.mp (.inr h)
        exact ⟨i, Nat.lt_succ_of_lt hi, r⟩
      · exact ⟨n, Nat.lt_succ_self n, e, bn.mpr (.inr h)⟩
    · rintro ⟨i, hi, e, b⟩
      by_cases c : i = n
      · subst c
        rcases bn.mp b with h | h
        · exact .inl (.inr ⟨e, h⟩)
        · exact .inr (.inr ⟨e, h⟩)
      · rcases ih.mpr ⟨i, by omega, e, b⟩ with h | h
        · exact .inl (.inl h)
        · exact .inr (.inl h)
theorem wrong_is (pls : List PLine) (d : Nat) (x : Nat) : x ∈ (prog pls d).wrong ↔ ∃ i, i < pls.length ∧ x = i + 1 ∧ Bad pls i := by
  rw [wrong_eq]
  have h := wrong_first pls pls.length (Nat.le_refl _) x
  rw [List.take_length] at h
  show x ∈ dups (labsOf 1 0 pls) ++ lost ((labsOf 1 0 pls).map (·.1)) (codeOf 1 pls) ↔ _
  rw [labs_names]
  exact h
theorem least : ∀ (r : List Nat) (x : Nat), r.foldl min x ∈ x :: r ∧ ∀ y ∈ x :: r, r.foldl min x ≤ y
  | [], x => ⟨List.mem_cons_self, fun y hy => by rw [List.mem_singleton.mp hy]; exact Nat.le_refl _⟩
  | a :: r, x => by
    obtain ⟨h1, h2⟩ := least r (min x a)
    rw [List.foldl_cons]
    have hm : r.foldl min (min x a) ≤ min x a := h2 _ List.mem_cons_self
    refine ⟨?_, fun y hy => ?_⟩
    · rcases List.mem_cons.mp h1 with e | e
      · rw [e]
        rcases Nat.le_total x a with q | q
        · rw [Nat.min_eq_left q]
          exact List.mem_cons_self
        · rw [Nat.min_eq_right q]
          exact List.mem_cons_of_mem _ List.mem_cons_self
      · exact List.mem_cons_of_mem _ (List.mem_cons_of_mem _ e)
    · rcases List.mem_cons.mp hy with e | hy
      · rw [e]
        exact Nat.le_trans hm (Nat.min_le_left _ _)
      · rcases List.mem_cons.mp hy with e | hy
        · rw [e]
          exact Nat.le_trans hm (Nat.min_le_right _ _)
        · exact h2 y (List.mem_cons_of_mem _ hy)
/-- the first wrong line is the one that is told -/
theorem told_bad {pls : List PLine} {d i : Nat} (hi : i < pls.length) (b : Bad pls i) (hf : ∀ j, j < i → ¬ Bad pls j) : ∃ x r, (prog pls d).wrong = x :: r ∧ r.foldl min x = i + 1 := by
  have m : i + 1 ∈ (prog pls d).wrong := (wrong_is pls d _).mpr ⟨i, hi, rfl, b⟩
  cases q : (prog pls d).wrong with
  | nil =>
    rw [q] at m
    cases m
  | cons x r =>
    rw [q] at m
    obtain ⟨l1, l2⟩ := least r x
    rw [← q] at l1
    obtain ⟨j, hj, e, bj⟩ := (wrong_is pls d _).mp l1
    refine ⟨x, r, rfl, ?_⟩
    have h1 := l2 _ m
    by_cases c : j < i
    · exact absurd bj (hf j c)
    · omega
theorem told_none {pls : List PLine} {d : Nat} (h : ∀ j, j < pls.length → ¬ Bad pls j) : (prog pls d).wrong = [] := by
  cases q : (prog pls d).wrong with
  | nil => rfl
  | cons x r =>
    have m : x ∈ (prog pls d).wrong := by rw [q]; exact List.mem_cons_self
    obtain ⟨i, hi, _, b⟩ := (wrong_is pls d x).mp m
    exact absurd b (h i hi)
end SlM
set_option Elab.async false
set_option linter.all false
set_option maxRecDepth 100000
set_option maxHeartbeats 4000000
namespace Sl
open PySem PySem.Spec PyProof.Rows L2 SlM
/-! ### texts of bytes -/
theorem S_list (b : Bytes) : (S b).cps.toList = b.map UInt8.toNat := rfl
theorem S_len (b : Bytes) : (S b).length = b.length := by simp [S, Str.length]
theorem toNat_inj {a b : UInt8} (h : a.toNat = b.toNat) : a = b := by
  have := congrArg UInt8.ofNat h
  rwa [UInt8.ofNat_toNat, UInt8.ofNat_toNat] at this
theorem map_inj {a b : Bytes} (h : a.map UInt8.toNat = b.map UInt8.toNat) : a = b := (List.map_inj_right fun _ _ => toNat_inj).mp h
theorem S_inj {a b : Bytes} (h : S a = S b) : a = b := map_inj (by rw [← S_list, h, S_list])
theorem S_iff {a b : Bytes} : S a = S b ↔ a = b := ⟨S_inj, fun h => by rw [h]⟩
theorem S_txt (s : String) (h : (Str.ofString s).cps.toList = (Sf47.txt s).map UInt8.toNat := by decide +kernel) : Str.ofString s = S (Sf47.txt s) := Str.ext' (Array.toList_inj.mp (by rw [S_list]; exact h))
theorem in_letters (c : UInt8) : decide (c.toNat ∈ letters.cps.toList) = Sf47.begins c := by
  have q := all_bytes (p := fun c => decide (c.toNat ∈ letters.cps.toList) == Sf47.begins c) (by decide +kernel) c
  exact beq_iff_eq.mp q
theorem in_digits (c : UInt8) : decide (c.toNat ∈ digits.cps.toList) = Sf47.digit c := by
  have q := all_bytes (p := fun c => decide (c.toNat ∈ digits.cps.toList) == Sf47.digit c) (by decide +kernel) c
  exact beq_iff_eq.mp q
theorem in_both (c : UInt8) : decide (c.toNat ∈ (letters ++ digits).cps.toList) = Sf47.inWord c := by
  have q := all_bytes (p := fun c => decide (c.toNat ∈ (letters ++ digits).cps.toList) == Sf47.inWord c) (by decide +kernel) c
  exact beq_iff_eq.mp q
theorem in_marks (c : UInt8) : decide (c.toNat ∈ marks.cps.toList) = mark c := by
  have q := all_bytes (p := fun c => decide (c.toNat ∈ marks.cps.toList) == mark c) (by decide +kernel) c
  exact beq_iff_eq.mp q
theorem in_blanks (c : UInt8) : decide (c.toNat ∈ blanks.cps.toList) = Sf47.blank c := by
  have q := all_bytes (p := fun c => decide (c.toNat ∈ blanks.cps.toList) == Sf47.blank c) (by decide +kernel) c
  exact beq_iff_eq.mp q
theorem S_at {b : Bytes} {k : Nat} {c : UInt8} (h : b[k]? = some c) : atI (S b).cps.toList (k : Int) = some c.toNat := by
  refine atI_nat ?_
  rw [S_list, List.getElem?_map, h]
  rfl
/-! ### a def of the top, and what it promises -/
def Src (K : PySem.W.Frag) (mg : Str → Option Value) (name : Str) (st : Stmt) : Prop := ∃ f fd, mg name = some (.ref f) ∧ Fun K name name st f fd
def Df (P : Program) (w : World) (K : PySem.W.Frag) (mg : Str → Option Value) (base : Heap) (CX : CXT) (k : Nat) (name : Str) (ps : List Str) (sp : Sp) : Prop :=
  ∃ f fd, mg name = some (.ref f) ∧ PySem.W.keepIn K (.ref f) = true ∧ Binds K fd ps [] ∧ FnOk P w K mg base CX k f fd ps sp
section
variable {P : Program} {w : World} {K : PySem.W.Frag} {mg : Str → Option Value} {base : Heap}
/-- a def's body, walked: what okN and its like ask for -/
abbrev Walked (CX : CXT) (P : Program) (w : World) (K : PySem.W.Frag) (mg : Str → Option Value) (base : Heap) (N : List Str) (qual : Str) (st : Stmt) (f : Addr) (k : Nat) (sp : Sp) : Prop :=
  ∀ (cdv : Value) (A : Around) (outer : List Env) (s : Shared) (H : Hp) (vs : List V) (Q : VK) (E : XK), Room k (A.deeper (envOfC qual (defScope st) s.heap.objs.size f cdv)) → sp vs H Q E → ∃ t, PSs (cxOf CX P w K mg base N qual (defScope st) f cdv A outer s H E) (defBody st) t ∧ t { nx := fun _ H' => Q .non H', rt := Q } (start N vs) H
theorem ok_def {CX : CXT} {x qual : Str} {st : Stmt} {f : Addr} {fd : FuncData} {N ps : List Str} {k : Nat} {sp : Sp} (F : Fun K x qual st f fd) (S : FnScope N ps (defScope st)) (len : ∀ vs H Q E, sp vs H Q E → vs.length = ps.length) (hbody : Walked CX P w K mg base N qual st f k sp) : FnOk P w K mg base CX (k + 1) f fd ps sp := by
  obtain ⟨_, _, _, _, _, _, cdv, _, _, rfl, at_, code⟩ := F.ex
  exact fn_of at_ code S len (hbody cdv)
theorem okN {x qual : Str} {st : Stmt} {f : Addr} {fd : FuncData} {N ps : List Str} {k : Nat} {sp : Sp} (F : Fun K x qual st f fd) (S : FnScope N ps (defScope st)) (len : ∀ vs H Q E, sp vs H Q E → vs.length = ps.length) (hbody : Walked (L2N.CX P w) P w K mg base N qual st f k sp) : FnOk P w K mg base (L2N.CX P w) (k + 1) f fd ps sp := ok_def F S len hbody
theorem Src.df {name : Str} {st : Stmt} {ps : List Str} {CX : CXT} {k : Nat} {sp : Sp} (s : Src K mg name st)
    (h : ∀ (kV doc pm : Value) (an : Option Addr) (cdv ct : Value) (us : List Value), us.length = ps.length → bindArgs (PySem.W.fnOf name name (defArgs st) (defBody st) (defScope st) .none kV doc pm an cdv ct) ⟨us, []⟩ = pure (ps.zip us))
    (ok : ∀ f fd, Fun K name name st f fd → FnOk P w K mg base CX k f fd ps sp) : Df P w K mg base CX k name ps sp := by
  obtain ⟨f, fd, hm, F⟩ := s
  exact ⟨f, fd, hm, F.kp, F.binds h, ok f fd F⟩
end

/-- a text of the top -/
def TxtC (mg : Str → Option Value) (x : Str) (v : V) : Prop := ∃ u, mg x = some u ∧ RelV v u
theorem if_t {c : Bool} {A B : Prop} (hc : c = true) (h : A) : if c = true then A else B := by
  rw [if_pos hc]
  exact h
theorem if_f {c : Bool} {A B : Prop} (hc : c = false) (h : B) : if c = true then A else B := by
  rw [hc, if_neg Bool.false_ne_true]
  exact h
end Sl
set_option Elab.async false
set_option linter.all false
set_option maxRecDepth 100000
set_option maxHeartbeats 4000000
namespace Sl
open PySem PySem.Spec PyProof.Rows L2 SlM
section
variable {P : Program} {w : World} {K : PySem.W.Frag} {mg : Str → Option Value} {base : Heap}
/-! ### end_of_run -/
def spRun : Sp := fun vs H Q _ => ∃ (b : Bytes) (k : Nat) (m : Str) (p : UInt8 → Bool), vs = [.str (S b), .int k, .str m] ∧ k ≤ b.length ∧ b.length ≤ 1000 ∧ (∀ c, decide (c.toNat ∈ m.cps.toList) = p c) ∧ Q (.int ((k + runLen p (b.drop k) : Nat) : Int)) H
theorem sc_run : FnScope ["row", "start", "members", "end"] ["row", "start", "members"] (defScope s_end_of_run) := ⟨rfl, rfl, rfl, by decide +kernel, rfl, by decide +kernel, by decide +kernel⟩
theorem drop_at {b : Bytes} {j : Nat} {c : UInt8} (h : b[j]? = some c) : b.drop j = c :: b.drop (j + 1) := by
  obtain ⟨hl, e⟩ := List.getElem?_eq_some_iff.mp h
  rw [List.drop_eq_getElem_cons hl, e]
theorem ok_run {f : Addr} {fd : FuncData} (F : Fun K "end_of_run" "end_of_run" s_end_of_run f fd) (hl : mg "len" = none) : FnOk P w K mg base CX0 1 f fd ["row", "start", "members"] spRun := by
  refine F.ok sc_run (fun vs H Q E h => ?_) (fun cdv A outer s H vs Q E hr h => ?_)
  · obtain ⟨b, k, m, p, rfl, _⟩ := h
    rfl
  · refine ⟨_, pss_cons (ps_set (i := 3) sc_run.nd rfl (Or.inl rfl) (pv 1))
      (pss_cons (ps_while PassesOwn.never (PW.pt (pw_and (pt_cmpR op_lt (pv 3) (pe_callB call_len_str (by rfl) hl PySem.boot_len (pa_cons (pv 0) pa_nil)) (nomark _))
          (pw_and1 (pt_cmpR op_in_sign (pe_ix ix_str (pv 0) (pv 3) (fun _ _ => rfl)) (pv 2) (by rfl)))))
        (pss_one (ps_aug (i := 3) sc_run.nd rfl (Or.inl rfl) pe_int ip_add)))
      (pss_one (ps_ret (pv 3)))), ?_⟩
    obtain ⟨b, k, m, p, rfl, hk, hb, hp, q⟩ := h
    have hz : (S b).length ≤ sizeLine := by rw [S_len]; exact Nat.le_trans hb (by decide)
    refine ⟨_, rfl, ?_⟩
    refine while_by (fun σ H' => H' = H ∧ ∃ j : Nat, σ = [some (.str (S b)), some (.int k), some (.str m), some (.int j)] ∧ j ≤ b.length ∧ j + runLen p (b.drop j) = k + runLen p (b.drop k)) (fun σ _ => match σ with | [_, _, _, some (.int j)] => b.length - j.toNat | _ => 0) ⟨rfl, k, rfl, hk, rfl⟩ ?_ ?_
    · rintro σ H' ⟨rfl, j, rfl, hj, e⟩
      refine ⟨_, rfl, _, rfl, _, rfl, hz, _, _, rfl, rfl, _, rfl, ?_⟩
      rw [S_len]
      refine ite2 (fun c => ?_) (fun c => ?_)
      · have c : j < b.length := by have := of_decide_eq_true c; omega
        obtain ⟨ch, hch⟩ : ∃ ch, b[j]? = some ch := ⟨b[j], List.getElem?_eq_getElem c⟩
        have dj := drop_at hch
        refine ⟨_, rfl, _, rfl, _, _, ch.toNat, rfl, rfl, hz, S_at hch, _, rfl, _, _, rfl, rfl, _, rfl, ?_⟩
        rw [hp]
        refine ite2 (fun c2 => ?_) (fun c2 => ?_)
        · refine ⟨_, rfl, _, _, rfl, rfl, ⟨rfl, j + 1, rfl, c, ?_⟩, ?_⟩
          · rw [dj, run_cons c2] at e
            omega
          · show b.length - ((j : Int) + 1).toNat < b.length - (j : Int).toNat
            omega
        · rw [dj, run_zero c2] at e
          refine ⟨_, rfl, ?_⟩
          rw [← e] at q
          exact q
      · have c : ¬ j < b.length := fun z => c (decide_eq_true (by omega))
        have e0 : b.drop j = [] := List.drop_eq_nil_of_le (by omega)
        rw [e0] at e
        refine ⟨_, rfl, ?_⟩
        rw [← e] at q
        exact q
    · rintro σ H1 Q1 Q2 hq ⟨v1, e1, v2, e2, x, e3, hz', i, j, e4, e5, k, e6, h⟩
      refine ⟨v1, e1, v2, e2, x, e3, hz', i, j, e4, e5, k, e6, ?_⟩
      split at h
      · rename_i c
        rw [if_pos c]
        obtain ⟨v1, e1, v2, e2, x, e3, hz', i, j, e4, e5, k, e6, k2, e7, k3, e8, k4, e9, h⟩ := h
        exact ⟨v1, e1, v2, e2, x, e3, hz', i, j, e4, e5, k, e6, k2, e7, k3, e8, k4, e9, hq _ _ h⟩
      · rename_i c
        rw [if_neg c]
        exact hq _ _ h
theorem sign_is {c k : UInt8} {s : String} (h : Str.ofString s = S [k]) : decide (V.str ⟨#[c.toNat]⟩ = V.str (Str.ofString s)) = decide (c = k) := by
  rw [h]
  have e : (⟨#[c.toNat]⟩ : Str) = S [c] := rfl
  rw [e]
  by_cases q : c = k
  · rw [q, decide_eq_true rfl, decide_eq_true rfl]
  · rw [decide_eq_false q]
    refine decide_eq_false fun z => q ?_
    have z := S_inj (V.str.inj z)
    exact (List.cons.inj z).1
theorem int_eq (i j : Int) : decide (V.int i = V.int j) = decide (i = j) := by
  by_cases q : i = j
  · rw [q, decide_eq_true rfl, decide_eq_true rfl]
  · rw [decide_eq_false q]
    exact decide_eq_false fun z => q (V.int.inj z)
/-! ### end_of_number -/
variable {CU : Addr}
/-- what the text says of Unreadable -/
structure UnTxt (K : PySem.W.Frag) (mg : Str → Option Value) (CU : Addr) : Prop where
  gF : mg "Unreadable" = some (.ref CU)
  xF : PySem.W.excIn K CU [.type "Exception", .type "BaseException", .type "object"] "Exception.__new__" = true
  kF : PySem.W.keepIn K (.ref CU) = true
  bF : PySem.W.subIn K (.ref CU) (.type "BaseException") = some true
  tF : PySem.W.typeIn K (.ref CU) = some (.type "type")
  eF : PySem.W.exmOne K (.ref CU) (.ref CU) = some true
def spNum (CU : Addr) : Sp := fun vs H Q E => ∃ (b : Bytes) (k : Nat), vs = [.str (S b), .int k] ∧ k < b.length ∧ b.length ≤ 1000 ∧ (endNum (b.drop k) = none → E (.ref CU) none H) ∧ (∀ n, endNum (b.drop k) = some n → Q (.int ((k + n : Nat) : Int)) H)
theorem sc_num : FnScope ["row", "start", "first_digit", "end"] ["row", "start"] (defScope s_end_of_number) := ⟨rfl, rfl, rfl, by decide +kernel, rfl, by decide +kernel, by decide +kernel⟩
theorem ok_num {f : Addr} {fd : FuncData} (F : Fun K "end_of_number" "end_of_number" s_end_of_number f fd) (U : UnTxt K mg CU) (cD : TxtC mg "DIGITS" (.str digits)) (R : Df P w K mg base CX0 1 "end_of_run" ["row", "start", "members"] spRun) :
    FnOk P w K mg base (L2N.CX P w) 2 f fd ["row", "start"] (spNum CU) := by
  obtain ⟨fR, fdR, mR, kR, bR, FR⟩ := R
  obtain ⟨uD, mD, rD⟩ := cD
  refine okN F sc_num (fun vs H Q E h => ?_) (fun cdv A outer s H vs Q E hr h => ?_)
  · obtain ⟨b, k, rfl, _⟩ := h
    rfl
  · refine ⟨_, pss_cons (ps_set (i := 2) sc_num.nd rfl (Or.inl rfl) (pe_ifExp (pt_cmpR op_eq (pe_ix ix_str (pv 0) (pv 1) (fun _ _ => rfl)) pe_str (nomark _)) (pe_op op_add (pv 1) pe_int) (pv 1)))
      (pss_cons (ps_set (i := 3) sc_num.nd rfl (Or.inl rfl) (pe_call FR hr (by rfl) mR kR bR .nil pass0 (pa_cons (pv 0) (pa_cons (pv 2) (pa_cons (pe_glob (by rfl) mD rD) pa_nil)))))
      (pss_cons (ps_if (pt_cmpR op_eq (pv 3) (pv 2) (nomark _)) (pss_one (L2N.ps_raise rfl (L2N.takes_of rfl rfl rfl rfl) (pmk_bare PySem.F.excBase_Exception U.xF U.gF U.kF (raises_own U.bF U.tF) (by rfl)))) pss_nil)
      (pss_one (ps_ret (pv 3))))), ?_⟩
    obtain ⟨b, k, rfl, hk, hb, kN, kS⟩ := h
    have hz : (S b).length ≤ sizeLine := by rw [S_len]; exact Nat.le_trans hb (by decide)
    obtain ⟨ch, hch⟩ : ∃ ch, b[k]? = some ch := ⟨b[k], List.getElem?_eq_getElem hk⟩
    have dk := drop_at hch
    rw [dk, endNum_cons] at kN kS
    refine ⟨_, rfl, _, rfl, _, _, ch.toNat, rfl, rfl, hz, S_at hch, rfl, _, rfl, ?_⟩
    rw [sign_is (k := 45) (by decide +kernel)]
    have rest : ∀ j : Nat, j ≤ b.length → (runLen Sf47.digit (b.drop j) = 0 → E (.ref CU) none H) → (¬ runLen Sf47.digit (b.drop j) = 0 → Q (.int ((j + runLen Sf47.digit (b.drop j) : Nat) : Int)) H) →
        ∃ (b' : Bytes) (k' : Nat) (m : Str) (p : UInt8 → Bool), [V.str (S b), V.int (j : Nat), V.str digits] = [.str (S b'), .int k', .str m] ∧ k' ≤ b'.length ∧ b'.length ≤ 1000 ∧ (∀ c, decide (c.toNat ∈ m.cps.toList) = p c) ∧
          (∃ v, [some (V.str (S b)), some (V.int k), some (V.int (j : Nat)), some (V.int ((k' + runLen p (b'.drop k') : Nat) : Int))][3]? = some (some v) ∧ ∃ u, [some (V.str (S b)), some (V.int k), some (V.int (j : Nat)), some (V.int ((k' + runLen p (b'.drop k') : Nat) : Int))][2]? = some (some u) ∧ scal v u = true ∧ ∃ c, V.bl (decide (v = u)) = V.bl c ∧
            if c = true then E (.ref CU) none H else ∃ v, [some (V.str (S b)), some (V.int k), some (V.int (j : Nat)), some (V.int ((k' + runLen p (b'.drop k') : Nat) : Int))][3]? = some (some v) ∧ Q v H) := by
      intro j hj h1 h2
      refine ⟨b, j, digits, Sf47.digit, rfl, hj, hb, in_digits, _, rfl, _, rfl, rfl, _, rfl, ?_⟩
      rw [int_eq]
      refine ite2 (fun c => h1 ?_) (fun c => ⟨_, rfl, h2 fun z => c (decide_eq_true (by omega))⟩)
      have := of_decide_eq_true c
      omega
    refine ite2 (fun c => ?_) (fun c => ?_)
    · have c := of_decide_eq_true c
      rw [if_pos c] at kN kS
      refine ⟨_, rfl, _, _, rfl, rfl, _, rfl, _, rfl, ?_⟩
      exact rest (k + 1) hk (fun z => kN (if_pos z)) (fun z => by
        have := kS _ (if_neg z)
        rw [← Nat.add_assoc] at this
        exact this)
    · have c : ¬ ch = 45 := fun z => c (decide_eq_true z)
      rw [if_neg c] at kN kS
      rw [← dk] at kN kS
      refine ⟨_, rfl, _, rfl, _, rfl, ?_⟩
      exact rest k (Nat.le_of_lt hk) (fun z => kN (if_pos z)) (fun z => kS _ (if_neg z))
end
end Sl
set_option Elab.async false
set_option linter.all false
set_option maxRecDepth 100000
set_option maxHeartbeats 4000000
namespace Sl
open PySem PySem.Spec PyProof.Rows L2 SlM
section
variable {P : Program} {w : World} {K : PySem.W.Frag} {mg : Str → Option Value} {base : Heap} {CU : Addr}
/-! ### end_of_sign -/
def spSignEnd (CU : Addr) : Sp := fun vs H Q E => ∃ (b : Bytes) (k : Nat), vs = [.str (S b), .int k] ∧ k < b.length ∧ b.length ≤ 1000 ∧ (endLen (b.drop k) = none → E (.ref CU) none H) ∧ (∀ n, endLen (b.drop k) = some n → Q (.int ((k + n : Nat) : Int)) H)
theorem sc_send : FnScope ["row", "start"] ["row", "start"] (defScope s_end_of_sign) := ⟨rfl, rfl, rfl, by decide +kernel, rfl, by decide +kernel, by decide +kernel⟩
theorem ok_send {f : Addr} {fd : FuncData} (F : Fun K "end_of_sign" "end_of_sign" s_end_of_sign f fd) (cL : TxtC mg "LETTERS" (.str letters)) (cD : TxtC mg "DIGITS" (.str digits)) (cM : TxtC mg "MARKS" (.str marks))
    (R : Df P w K mg base CX0 1 "end_of_run" ["row", "start", "members"] spRun) (N : Df P w K mg base (L2N.CX P w) 2 "end_of_number" ["row", "start"] (spNum CU)) :
    FnOk P w K mg base (L2N.CX P w) 3 f fd ["row", "start"] (spSignEnd CU) := by
  obtain ⟨fR, fdR, mR, kR, bR, FR⟩ := R
  obtain ⟨fN, fdN, mN, kN, bN, FN⟩ := N
  obtain ⟨uD, mD, rD⟩ := cD
  obtain ⟨uL, mL, rL⟩ := cL
  obtain ⟨uM, mM, rM⟩ := cM
  refine okN F sc_send (fun vs H Q E h => ?_) (fun cdv A outer s H vs Q E hr h => ?_)
  · obtain ⟨b, k, rfl, _⟩ := h
    rfl
  · refine ⟨_, pss_cons (ps_if (pt_cmpR op_in_sign (pe_ix ix_str (pv 0) (pv 1) (fun _ _ => rfl)) (pe_glob (by rfl) mM rM) (by rfl)) (pss_one (ps_ret (pe_op op_add (pv 1) pe_int))) pss_nil)
      (pss_cons (ps_if (pt_cmpR op_in_sign (pe_ix ix_str (pv 0) (pv 1) (fun _ _ => rfl)) (pe_glob (by rfl) mL rL) (by rfl))
        (pss_one (ps_ret (pe_call FR (hr.mono (by decide)) (by rfl) mR kR bR .nil pass0 (pa_cons (pv 0) (pa_cons (pv 1) (pa_cons (pe_op op_add_str (pe_glob (by rfl) mL rL) (pe_glob (by rfl) mD rD)) pa_nil)))))) pss_nil)
      (pss_one (ps_ret (pe_callS FN hr (by rfl) mN kN bN (fun σ => L2N.passAt (L2N.takes_of rfl rfl rfl rfl) σ) (pa_cons (pv 0) (pa_cons (pv 1) pa_nil)))))), ?_⟩
    obtain ⟨b, k, rfl, hk, hb, kF, kS⟩ := h
    have hz : (S b).length ≤ sizeLine := by rw [S_len]; exact Nat.le_trans hb (by decide)
    obtain ⟨ch, hch⟩ : ∃ ch, b[k]? = some ch := ⟨b[k], List.getElem?_eq_getElem hk⟩
    have dk := drop_at hch
    rw [dk, endLen_cons] at kF kS
    refine ⟨_, rfl, _, rfl, _, _, ch.toNat, rfl, rfl, hz, S_at hch, _, _, rfl, rfl, _, rfl, ?_⟩
    rw [in_marks]
    refine ite2 (fun c => ?_) (fun c => ?_)
    · exact ⟨_, rfl, _, _, rfl, rfl, kS 1 (if_pos c)⟩
    · rw [if_neg c] at kF kS
      refine ⟨_, rfl, _, rfl, _, _, ch.toNat, rfl, rfl, hz, S_at hch, _, _, rfl, rfl, _, rfl, ?_⟩
      rw [in_letters]
      refine ite2 (fun c => ?_) (fun c => ?_)
      · rw [if_pos c] at kS
        have q := kS _ rfl
        rw [← dk] at q
        exact ⟨_, rfl, _, rfl, _, _, rfl, rfl, by decide, b, k, _, Sf47.inWord, rfl, Nat.le_of_lt hk, hb, in_both, q⟩
      · rw [if_neg c] at kF kS
        rw [← dk] at kF kS
        exact ⟨_, rfl, _, rfl, b, k, rfl, hk, hb, kF, kS⟩
/-! ### word_of, number_of, sign_of -/
def spWordOf (CU : Addr) : Sp := fun vs H Q E => ∃ t : Bytes, vs = [.str (S t)] ∧ t.length ≤ 1000 ∧ (15 < t.length → E (.ref CU) none H) ∧ (¬ 15 < t.length → Q (.str (S t)) H)
theorem sc_text : FnScope ["text"] ["text"] (defScope s_word_of) := ⟨rfl, rfl, rfl, by decide +kernel, rfl, by decide +kernel, by decide +kernel⟩
theorem ok_wordOf {f : Addr} {fd : FuncData} (F : Fun K "word_of" "word_of" s_word_of f fd) (U : UnTxt K mg CU) (hl : mg "len" = none) (cW : TxtC mg "WORD_LIMIT" (.int 15)) : FnOk P w K mg base (L2N.CX P w) 1 f fd ["text"] (spWordOf CU) := by
  obtain ⟨uW, mW, rW⟩ := cW
  refine okN F sc_text (fun vs H Q E h => ?_) (fun cdv A outer s H vs Q E hr h => ?_)
  · obtain ⟨t, rfl, _⟩ := h
    rfl
  · refine ⟨_, pss_cons (ps_if (pt_cmpR op_gt (pe_callB call_len_str (by rfl) hl PySem.boot_len (pa_cons (pv 0) pa_nil)) (pe_glob (by rfl) mW rW) (nomark _))
        (pss_one (L2N.ps_raise rfl (L2N.takes_of rfl rfl rfl rfl) (pmk_bare PySem.F.excBase_Exception U.xF U.gF U.kF (raises_own U.bF U.tF) (by rfl)))) pss_nil)
      (pss_one (ps_ret (pv 0))), ?_⟩
    obtain ⟨t, rfl, ht, kF, kS⟩ := h
    have hz : (S t).length ≤ sizeLine := by rw [S_len]; exact Nat.le_trans ht (by decide)
    refine ⟨_, rfl, _, rfl, hz, _, _, rfl, rfl, _, rfl, ?_⟩
    rw [S_len]
    refine ite2 (fun c => kF ?_) (fun c => ⟨_, rfl, kS fun z => c (decide_eq_true (by omega))⟩)
    have := of_decide_eq_true c
    omega
/-- a text that int takes -/
def NumText (t : Bytes) : Prop := ∃ d : Bytes, d ≠ [] ∧ d.all Sf47.digit = true ∧ (t = d ∨ t = 45 :: d)
theorem digits_val (d : Bytes) : PySem.NumText.digitsVal (d.map UInt8.toNat) = Sf47.number d := by
  unfold PySem.NumText.digitsVal Sf47.number
  have key : ∀ (l : Bytes) (a : Nat), (l.map UInt8.toNat).foldl (fun acc c => acc * 10 + (c - 48)) a = l.foldl (fun n c => 10 * n + (c.toNat - 48)) a := by
    intro l
    induction l with
    | nil => intro a; rfl
    | cons c r ih =>
      intro a
      rw [List.map_cons, List.foldl_cons, List.foldl_cons, ih, Nat.mul_comm]
  exact key d 0
theorem all_digits {d : Bytes} (h : d.all Sf47.digit = true) : PySem.NumText.AllDigits (d.map UInt8.toNat) := fun c hc => by
  obtain ⟨x, hx, rfl⟩ := List.mem_map.mp hc
  have q := List.all_eq_true.mp h x hx
  unfold Sf47.digit at q
  simp only [Bool.and_eq_true, decide_eq_true_eq] at q
  exact q
theorem digit_head {d : Bytes} (h : d.all Sf47.digit = true) (hn : d ≠ []) : numVal d = (Sf47.number d : Int) := by
  cases d with
  | nil => exact absurd rfl hn
  | cons c r =>
    rw [List.all_cons] at h
    simp only [Bool.and_eq_true] at h
    rw [numVal_cons, if_neg (digit_ne h.1)]
theorem int_text {t : Bytes} (h : NumText t) (hl : t.length ≤ 640) : intText? (S t) = some (numVal t) := by
  obtain ⟨d, hn, ha, e⟩ := h
  have hne : d.map UInt8.toNat ≠ [] := fun z => hn (List.map_eq_nil_iff.mp z)
  have hlen : (S t).length ≤ 4300 := by rw [S_len]; omega
  rcases e with rfl | rfl
  · rw [PySem.intText_digits (x := S t) (all_digits ha) hne hlen, digit_head ha hn]
    exact congrArg some (congrArg Int.ofNat (digits_val t))
  · rw [PySem.intText_neg (x := S (45 :: d)) (cs := d.map UInt8.toNat) rfl (all_digits ha) hne hlen, digits_val]
    rfl
def spNumberOf (CU : Addr) : Sp := fun vs H Q E => ∃ t : Bytes, vs = [.str (S t)] ∧ t.length ≤ 600 ∧ NumText t ∧ (¬ Sf47.fits (numVal t) = true → E (.ref CU) none H) ∧ (Sf47.fits (numVal t) = true → Q (.int (numVal t)) H)
theorem sc_nof : FnScope ["text", "number"] ["text"] (defScope s_number_of) := ⟨rfl, rfl, rfl, by decide +kernel, rfl, by decide +kernel, by decide +kernel⟩
theorem fits_iff (z : Int) : Sf47.fits z = true ↔ ¬ (z < -2147483648) ∧ ¬ (2147483648 ≤ z) := by
  unfold Sf47.fits
  simp only [Bool.and_eq_true, decide_eq_true_eq]
  omega
theorem ok_numberOf {f : Addr} {fd : FuncData} (F : Fun K "number_of" "number_of" s_number_of f fd) (U : UnTxt K mg CU) (hi : mg "int" = none) (cB : TxtC mg "NUMBER_BOUND" (.int 2147483648)) : FnOk P w K mg base (L2N.CX P w) 1 f fd ["text"] (spNumberOf CU) := by
  obtain ⟨uB, mB, rB⟩ := cB
  refine okN F sc_nof (fun vs H Q E h => ?_) (fun cdv A outer s H vs Q E hr h => ?_)
  · obtain ⟨t, rfl, _⟩ := h
    rfl
  · refine ⟨_, pss_cons (ps_set (i := 1) sc_nof.nd rfl (Or.inl rfl) (pe_callTy call_int_str (by rfl) hi (by decide +kernel) (pa_cons (pv 0) pa_nil)))
      (pss_cons (ps_if (PW.pt (pw_or (pt_cmpR op_lt (pv 1) (pe_un un_neg (pe_glob (by rfl) mB rB)) (nomark _)) (pw_or1 (pt_cmpR op_ge (pv 1) (pe_glob (by rfl) mB rB) (nomark _)))))
        (pss_one (L2N.ps_raise rfl (L2N.takes_of rfl rfl rfl rfl) (pmk_bare PySem.F.excBase_Exception U.xF U.gF U.kF (raises_own U.bF U.tF) (by rfl)))) pss_nil)
      (pss_one (ps_ret (pv 1)))), ?_⟩
    obtain ⟨t, rfl, ht, hn, kF, kS⟩ := h
    refine ⟨_, rfl, _, _, rfl, int_text hn (by omega), by rw [S_len]; omega, ?_⟩
    refine ⟨_, rfl, _, rfl, _, _, rfl, rfl, _, rfl, ?_⟩
    refine ite2 (fun c => ?_) (fun c => ?_)
    · refine iteT (kF fun z => ?_)
      exact ((fits_iff _).mp z).1 (of_decide_eq_true c)
    · refine ⟨_, rfl, _, _, rfl, rfl, _, rfl, ?_⟩
      refine ite2 (fun c2 => kF fun z => ((fits_iff _).mp z).2 (of_decide_eq_true c2)) (fun c2 => ?_)
      refine ⟨_, rfl, kS ((fits_iff _).mpr ⟨fun z => c (decide_eq_true z), fun z => c2 (decide_eq_true z)⟩)⟩
/-- a sign as a value -/
def sv : Sf47.Sign → V
  | .word b => .str (S b)
  | .num z => .int z
  | .colon => .str (S [58])
  | .open_ => .str (S [40])
  | .close => .str (S [41])
def spSignOf (CU : Addr) : Sp := fun vs H Q E => ∃ (c : UInt8) (r : Bytes), vs = [.str (S (c :: r))] ∧ (c :: r).length ≤ 600 ∧ (mark c = true → r = []) ∧ (¬ mark c = true → ¬ Sf47.begins c = true → NumText (c :: r)) ∧
  (signOf (c :: r) = none → E (.ref CU) none H) ∧ (∀ s, signOf (c :: r) = some s → Q (sv s) H)
theorem sc_sof : FnScope ["text"] ["text"] (defScope s_sign_of) := ⟨rfl, rfl, rfl, by decide +kernel, rfl, by decide +kernel, by decide +kernel⟩
theorem ok_signOf {f : Addr} {fd : FuncData} (F : Fun K "sign_of" "sign_of" s_sign_of f fd) (cL : TxtC mg "LETTERS" (.str letters)) (cM : TxtC mg "MARKS" (.str marks))
    (W : Df P w K mg base (L2N.CX P w) 1 "word_of_signs" ["text"] (spWordOf CU)) (N : Df P w K mg base (L2N.CX P w) 1 "number_of" ["text"] (spNumberOf CU)) : FnOk P w K mg base (L2N.CX P w) 2 f fd ["text"] (spSignOf CU) := by
  obtain ⟨fW, fdW, mW, kW, bW, FW⟩ := W
  obtain ⟨fN, fdN, mN, kN, bN, FN⟩ := N
  obtain ⟨uL, mL, rL⟩ := cL
  obtain ⟨uM, mM, rM⟩ := cM
  refine okN F sc_sof (fun vs H Q E h => ?_) (fun cdv A outer s H vs Q E hr h => ?_)
  · obtain ⟨c, r, rfl, _⟩ := h
    rfl
  · refine ⟨_, pss_cons (ps_if (pt_cmpR op_in_sign (pe_ix ix_str (pv 0) pe_int (fun _ _ => rfl)) (pe_glob (by rfl) mM rM) (by rfl)) (pss_one (ps_ret (pv 0))) pss_nil)
      (pss_cons (ps_if (pt_cmpR op_in_sign (pe_ix ix_str (pv 0) pe_int (fun _ _ => rfl)) (pe_glob (by rfl) mL rL) (by rfl))
        (pss_one (ps_ret (pe_callS FW hr (by rfl) mW kW bW (fun σ => L2N.passAt (L2N.takes_of rfl rfl rfl rfl) σ) (pa_cons (pv 0) pa_nil)))) pss_nil)
      (pss_one (ps_ret (pe_callS FN hr (by rfl) mN kN bN (fun σ => L2N.passAt (L2N.takes_of rfl rfl rfl rfl) σ) (pa_cons (pv 0) pa_nil))))), ?_⟩
    obtain ⟨c, r, rfl, hl, hm, hn, kF, kS⟩ := h
    have hz : (S (c :: r)).length ≤ sizeLine := by rw [S_len]; exact Nat.le_trans hl (by decide)
    have h0 : atI (S (c :: r)).cps.toList 0 = some c.toNat := S_at (k := 0) rfl
    rw [signOf_cons] at kF kS
    refine ⟨_, rfl, _, _, c.toNat, rfl, rfl, hz, h0, _, _, rfl, rfl, _, rfl, ?_⟩
    rw [in_marks]
    refine ite2 (fun cm => ?_) (fun cm => ?_)
    · rw [hm cm] at kS ⊢
      rw [if_pos cm] at kS
      rcases mark_iff.mp cm with rfl | rfl | rfl
      · exact ⟨_, rfl, kS _ rfl⟩
      · exact ⟨_, rfl, kS _ rfl⟩
      · exact ⟨_, rfl, kS _ rfl⟩
    · rw [if_neg cm] at kF kS
      refine ⟨_, rfl, _, _, c.toNat, rfl, rfl, hz, h0, _, _, rfl, rfl, _, rfl, ?_⟩
      rw [in_letters]
      refine ite2 (fun cb => ?_) (fun cb => ?_)
      · rw [if_pos cb] at kF kS
        exact ⟨_, rfl, c :: r, rfl, Nat.le_trans hl (by decide), fun z => kF (if_pos z), fun z => kS _ (if_neg z)⟩
      · rw [if_neg cb] at kF kS
        exact ⟨_, rfl, c :: r, rfl, hl, hn cm cb, fun z => kF (if_neg z), fun z => kS _ (if_pos z)⟩
/-! ### is_word, is_plain_number -/
/-- signs as a line has them -/
def Proper : Sf47.Sign → Prop
  | .word w => ∃ c r, w = c :: r ∧ Sf47.begins c = true ∧ (∀ x ∈ r, Sf47.inWord x = true) ∧ w.length ≤ 15
  | _ => True
def isW : Sf47.Sign → Bool
  | .word _ => true
  | _ => false
def spIsWord : Sp := fun vs H Q _ => ∃ s : Sf47.Sign, vs = [sv s] ∧ Proper s ∧ Q (.bl (isW s)) H
theorem sc_isw : FnScope ["sign"] ["sign"] (defScope s_is_word) := ⟨rfl, rfl, rfl, by decide +kernel, rfl, by decide +kernel, by decide +kernel⟩
theorem ok_isWord {f : Addr} {fd : FuncData} (F : Fun K "is_word" "is_word" s_is_word f fd) (cL : TxtC mg "LETTERS" (.str letters)) (hi : mg "isinstance" = none) (hs : mg "str" = none) : FnOk P w K mg base CX0 1 f fd ["sign"] spIsWord := by
  obtain ⟨uL, mL, rL⟩ := cL
  refine F.ok sc_isw (fun vs H Q E h => ?_) (fun cdv A outer s H vs Q E hr h => ?_)
  · obtain ⟨s, rfl, _⟩ := h
    rfl
  · refine ⟨_, pss_one (ps_ret (pe_and (pe_callB call_isi (by rfl) hi (by decide +kernel) (pa_cons (pv 0) (pa_cons (pe_bltn (v := .ty "str") (by rfl) hs (by decide +kernel) rfl) pa_nil)))
      (pe_one (pe_cmpR op_in_sign (pe_ix ix_str (pv 0) pe_int (fun _ _ => rfl)) (pe_glob (by rfl) mL rL) (by rfl))))), ?_⟩
    obtain ⟨sg, rfl, hp, q⟩ := h
    have text : ∀ (c : UInt8) (r : Bytes), sv sg = .str (S (c :: r)) → (c :: r).length ≤ 1000 → isW sg = Sf47.begins c →
        (∃ v, (start ["sign"] [sv sg])[0]? = some (some v) ∧ ∃ (x c' : V) (t u : Value) (b : Bool), [v, V.ty "str"] = [x, c'] ∧ ClsV c' u ∧ TyX K H x t ∧ PySem.W.kitOne K t u = some b ∧ ∃ c, V.bl b = V.bl c ∧
          if c = true then (∃ v, (start ["sign"] [sv sg])[0]? = some (some v) ∧ rIxS v (.int 0) H fun x H1 => ∃ (c : Nat) (z : Str), x = .str ⟨#[c]⟩ ∧ V.str letters = .str z ∧ Q (.bl (decide (c ∈ z.cps.toList))) H1) else Q (.bl false) H) := by
      intro c r e hl ew
      rw [e]
      refine ⟨_, rfl, _, _, .type "str", _, true, rfl, .ty "str", .base (.str _), kit_ty (by decide +kernel), _, rfl, iteT ?_⟩
      have hz : (S (c :: r)).length ≤ sizeLine := by rw [S_len]; exact Nat.le_trans hl (by decide)
      refine ⟨_, rfl, _, _, c.toNat, rfl, rfl, hz, S_at (k := 0) rfl, _, _, rfl, rfl, ?_⟩
      rw [in_letters, ← ew]
      exact q
    cases sg with
    | word w =>
      obtain ⟨c, r, rfl, hb, hi, hl⟩ := hp
      exact text c r rfl (Nat.le_trans hl (by decide)) hb.symm
    | num z => exact ⟨_, rfl, _, _, .type "int", _, false, rfl, .ty "str", .base (.int _), kit_ty (by decide +kernel), _, rfl, iteF q⟩
    | colon => exact text 58 [] rfl (by decide) (by decide)
    | open_ => exact text 40 [] rfl (by decide) (by decide)
    | close => exact text 41 [] rfl (by decide) (by decide)
def spPlain : Sp := fun vs H Q _ => ∃ d : Bytes, vs = [.str (S d)] ∧ d.length ≤ 1000 ∧ (∀ c ∈ d, Sf47.inWord c = true) ∧ Q (.bl (plain d)) H
theorem sc_pln : FnScope ["digits"] ["digits"] (defScope s_is_plain_number) := ⟨rfl, rfl, rfl, by decide +kernel, rfl, by decide +kernel, by decide +kernel⟩
theorem isdigit_S (d : Bytes) (h : ∀ c ∈ d, Sf47.inWord c = true) : PySem.Txt.isdigit (S d) = (!d.isEmpty && d.all Sf47.digit) := by
  unfold PySem.Txt.isdigit
  rw [S_len]
  have e1 : decide (d.length > 0) = !d.isEmpty := by cases d <;> simp
  have ub : ∀ c : UInt8, Sf47.inWord c = true → Unicode.isDigit c.toNat = Sf47.digit c := fun c hc => by
    have q := all_bytes (p := fun c => !Sf47.inWord c || Unicode.isDigit c.toNat == Sf47.digit c) (by decide +kernel) c
    simp only [hc, Bool.not_true, Bool.false_or, beq_iff_eq] at q
    exact q
  have e2 : (S d).cps.all Unicode.isDigit = d.all Sf47.digit := by
    rw [← Array.all_toList, S_list, List.all_map]
    clear e1
    induction d with
    | nil => rfl
    | cons c r ih =>
      rw [List.all_cons, List.all_cons, ih fun x hx => h x (List.mem_cons_of_mem _ hx)]
      show (Unicode.isDigit c.toNat && _) = _
      rw [ub c (h c List.mem_cons_self)]
  rw [e1, e2]
theorem ok_plain {f : Addr} {fd : FuncData} (F : Fun K "is_plain_number" "is_plain_number" s_is_plain_number f fd) : FnOk P w K mg base CX0 1 f fd ["digits"] spPlain := by
  refine F.ok sc_pln (fun vs H Q E h => ?_) (fun cdv A outer s H vs Q E hr h => ?_)
  · obtain ⟨d, rfl, _⟩ := h
    rfl
  · refine ⟨_, pss_one (ps_ret (pe_or (pe_cmpR op_eq (pv 0) pe_str (nomark _)) (pe_one (pe_and (pe_m0 PySem.F.slot_str_isdigit PySem.F.type_str_isdigit mt_isdigit (pv 0)) (pe_one (pe_cmpR op_ne (pe_ix ix_str (pv 0) pe_int (fun _ _ => rfl)) pe_str (nomark _))))))), ?_⟩
    obtain ⟨d, rfl, hl, hi, q⟩ := h
    refine ⟨_, rfl, rfl, _, rfl, ?_⟩
    have e : decide (V.str (S d) = V.str (Str.ofString "0")) = (d == [48]) := by
      rw [show Str.ofString "0" = S [48] from by decide +kernel]
      by_cases c : d = [48]
      · rw [c]
        rfl
      · rw [decide_eq_false fun z => c (S_inj (V.str.inj z))]
        exact (beq_eq_false_iff_ne.mpr c).symm
    rw [e]
    unfold SlM.plain at q
    refine ite2 (fun c => ?_) (fun c => ?_)
    · rw [c] at q
      exact q
    · rw [Bool.eq_false_iff.mpr c, Bool.false_or] at q
      refine ⟨_, rfl, ⟨_, rfl⟩, _, rfl, rfl, trivial, _, rfl, ?_⟩
      rw [isdigit_S d hi]
      refine ite2 (fun c2 => ?_) (fun c2 => ?_)
      · rw [c2, Bool.true_and] at q
        cases d with
        | nil => exact absurd c2 (by decide)
        | cons x r =>
          have hz : (S (x :: r)).length ≤ sizeLine := by rw [S_len]; exact Nat.le_trans hl (by decide)
          refine ⟨_, rfl, _, _, x.toNat, rfl, rfl, hz, S_at (k := 0) rfl, rfl, ?_⟩
          rw [sign_is (k := 48) (by decide +kernel)]
          have e3 : ((x :: r : Bytes).head? != some 48) = !decide (x = 48) := by
            by_cases c3 : x = 48
            · subst c3
              rfl
            · rw [decide_eq_false c3]
              simp [c3]
          rw [← e3]
          exact q
      · rw [Bool.eq_false_iff.mpr c2, Bool.false_and] at q
        exact q
end
end Sl
set_option Elab.async false
set_option linter.all false
set_option maxRecDepth 100000
set_option maxHeartbeats 4000000
namespace Sl
open PySem PySem.Spec PyProof.Rows L2 SlM
/-! ### the mathematics of a row -/
theorem par_shown : ∀ (l a : Bytes), (match TL.par [59] (a.map UInt8.toNat) (l.map UInt8.toNat) with | some (x, _) => x | none => (a ++ l).map UInt8.toNat) = (a ++ shown l).map UInt8.toNat
  | [], a => by
    unfold TL.par SlM.shown
    simp
  | c :: r, a => by
    rw [List.map_cons]
    by_cases e : c = 59
    · subst e
      rw [TL.par_hit (by simp [TL.pre])]
      show a.map UInt8.toNat = _
      rw [show shown (59 :: r) = [] from rfl, List.append_nil]
    · have hn : TL.pre [59] (c.toNat :: r.map UInt8.toNat) = false := TL.pre_of_head [] _ fun z => e (toNat_inj (b := 59) z)
      rw [TL.par_miss hn]
      have ih := par_shown r (a ++ [c])
      rw [List.map_append, List.append_assoc, List.append_assoc] at ih
      rw [shown_cons e]
      exact ih
theorem semi : Str.ofString ";" = S [59] := by decide +kernel
theorem part_shown (b : Bytes) : (Txt.partition (S b) (Str.ofString ";")).1 = S (shown b) := by
  rw [semi, TL.partition_par (S b) (S [59]) (by decide +kernel)]
  have h := par_shown b []
  rw [List.nil_append, List.nil_append] at h
  show (match TL.par [59] [] (b.map UInt8.toNat) with | some (a, b) => ((⟨a.toArray⟩ : Str), S [59], (⟨b.toArray⟩ : Str)) | none => (S b, Str.empty, Str.empty)).1 = S (shown b)
  have h : (match TL.par [59] [] (b.map UInt8.toNat) with | some (x, _) => x | none => b.map UInt8.toNat) = (shown b).map UInt8.toNat := h
  cases q : TL.par [59] [] (b.map UInt8.toNat) with
  | none =>
    rw [q] at h
    exact congrArg (fun l : List Nat => (⟨l.toArray⟩ : Str)) h
  | some x =>
    rw [q] at h
    exact congrArg (fun l : List Nat => (⟨l.toArray⟩ : Str)) h
theorem shown_len : ∀ b : Bytes, (shown b).length ≤ b.length
  | [] => Nat.le_refl _
  | c :: r => by
    by_cases e : c = 59
    · subst e
      exact Nat.zero_le _
    · rw [shown_cons e, List.length_cons, List.length_cons]
      exact Nat.succ_le_succ (shown_len r)
theorem shown_no : ∀ b : Bytes, (59 : UInt8) ∉ shown b
  | [] => by simp [SlM.shown]
  | c :: r => by
    by_cases e : c = 59
    · subst e
      simp [SlM.shown]
    · rw [shown_cons e]
      simp only [List.mem_cons, not_or]
      exact ⟨fun z => e z.symm, shown_no r⟩
theorem all_take {p : UInt8 → Bool} : ∀ l : Bytes, (l.takeWhile p).all p = true
  | [] => rfl
  | c :: r => by
    rw [List.takeWhile_cons]
    split
    · rename_i h
      rw [List.all_cons, h, all_take r]
      rfl
    · rfl
/-- what end_of_sign leaves for sign_of -/
theorem ready {c : UInt8} {r : Bytes} {n : Nat} (h : endLen (c :: r) = some n) : ∃ r', (c :: r).take n = c :: r' ∧ (mark c = true → r' = []) ∧ (¬ mark c = true → ¬ Sf47.begins c = true → NumText (c :: r')) := by
  have hp := endLen_pos h
  obtain ⟨m, rfl⟩ : ∃ m, n = m + 1 := ⟨n - 1, by omega⟩
  refine ⟨r.take m, rfl, fun hm => ?_, fun hm hb => ?_⟩
  · rw [endLen_cons, if_pos hm] at h
    cases h
    rfl
  · rw [endLen_cons, if_neg hm, if_neg hb, endNum_cons] at h
    by_cases e : c = 45
    · rw [if_pos e] at h
      by_cases z : runLen Sf47.digit r = 0
      · rw [if_pos z] at h
        cases h
      · rw [if_neg z] at h
        have h := Option.some.inj h
        have hm : m = runLen Sf47.digit r := by omega
        rw [hm, take_run]
        exact ⟨_, fun q => z (run_nil.mpr q), all_take r, .inr (by rw [e])⟩
    · rw [if_neg e] at h
      by_cases z : runLen Sf47.digit (c :: r) = 0
      · rw [if_pos z] at h
        cases h
      · rw [if_neg z] at h
        have h := Option.some.inj h
        have : (c :: r).take (m + 1) = c :: r.take m := rfl
        rw [← this, ← h, take_run]
        exact ⟨_, fun q => z (run_nil.mpr q), all_take _, .inl rfl⟩
theorem tok_proper {l : Bytes} {s : Sf47.Sign} {x : Bytes} (h : tok l = some (s, x)) : Proper s := by
  cases l with
  | nil => cases h
  | cons c r =>
    rw [tok_cons] at h
    split at h
    · cases h; trivial
    split at h
    · cases h; trivial
    split at h
    · cases h; trivial
    split at h
    · rename_i hb
      unfold wTok at h
      split at h
      · cases h
      · rename_i hl
        cases h
        exact ⟨c, _, rfl, hb, fun y hy => List.all_eq_true.mp (all_take r) y hy, by omega⟩
    split at h
    · unfold nTok at h
      split at h
      · cases h; trivial
      · cases h
    split at h
    · unfold nTok at h
      split at h
      · cases h; trivial
      · cases h
    · cases h
theorem sg_proper : ∀ (n : Nat) (b : Bytes) (ss : List Sf47.Sign), b.length ≤ n → sg b = some ss → ∀ s ∈ ss, Proper s
  | _, [], ss, _, h => by
    cases h
    intro s hs
    cases hs
  | 0, c :: r, _, h, _ => absurd h (by simp)
  | n + 1, c :: r, ss, hl, h => by
    have hl : r.length ≤ n := Nat.le_of_succ_le_succ hl
    rw [sg_cons] at h
    split at h
    · cases h
      intro s hs
      cases hs
    split at h
    · exact sg_proper n r ss hl h
    cases q : tok (c :: r) with
    | none =>
      rw [q] at h
      cases h
    | some x =>
      rw [q] at h
      have h : (sg x.2).map (fun l => x.1 :: l) = some ss := h
      have l := tok_len (s := x.1) (x := x.2) (by rw [q])
      rw [List.length_cons] at l
      cases q2 : sg x.2 with
      | none =>
        rw [q2] at h
        cases h
      | some l2 =>
        rw [q2] at h
        cases h
        intro s hs
        rcases List.mem_cons.mp hs with rfl | hs
        · exact tok_proper (l := c :: r) (x := x.2) (by rw [q])
        · exact sg_proper n x.2 l2 (by omega) q2 s hs
theorem cut_S (b : Bytes) (j n : Nat) (h : j + n ≤ b.length) : cutS (S b) (some (j : Int)) (some ((j + n : Nat) : Int)) = S ((b.drop j).take n) := by
  unfold cutS
  rw [HT.sIx_nat, HT.sIx_nat, S_len, show min (j + n) b.length = j + n from Nat.min_eq_left h, show min j b.length = j from Nat.min_eq_left (by omega), S_list, Nat.add_sub_cancel_left, ← List.map_drop, ← List.map_take]
  rfl
section
variable {P : Program} {w : World} {K : PySem.W.Frag} {mg : Str → Option Value} {base : Heap} {CU : Addr}
def signsOf (b : Bytes) : Option (List Sf47.Sign) := if 255 < b.length then none else sg b
def spSigns (CU : Addr) : Sp := fun vs H Q E => ∃ b : Bytes, vs = [.str (S b)] ∧ b.length ≤ 70000 ∧ (signsOf b = none → ∀ H', Same H H' → E (.ref CU) none H') ∧
  (∀ ss, signsOf b = some ss → ∀ H' p, Same H H' → H p = none → H' p = some (.lst (ss.map sv)) → Q (.ref p) H')
theorem sc_sgs : FnScope ["row", "shown", "signs", "at", "end"] ["row"] (defScope s_signs_of) := ⟨rfl, rfl, rfl, by decide +kernel, rfl, by decide +kernel, by decide +kernel⟩
theorem ok_signs {f : Addr} {fd : FuncData} (F : Fun K "signs_of" "signs_of" s_signs_of f fd) (U : UnTxt K mg CU) (hl : mg "len" = none) (cR : TxtC mg "ROW_LIMIT" (.int 255)) (cB : TxtC mg "BLANKS" (.str blanks))
    (N : Df P w K mg base (L2N.CX P w) 3 "end_of_sign" ["row", "start"] (spSignEnd CU)) (O : Df P w K mg base (L2N.CX P w) 2 "sign_of" ["text"] (spSignOf CU)) : FnOk P w K mg base (L2N.CX P w) 4 f fd ["row"] (spSigns CU) := by
  obtain ⟨fN, fdN, mN, kN, bN, FN⟩ := N
  obtain ⟨fO, fdO, mO, kO, bO, FO⟩ := O
  obtain ⟨uR, mR, rR⟩ := cR
  obtain ⟨uB, mB, rB⟩ := cB
  refine okN F sc_sgs (fun vs H Q E h => ?_) (fun cdv A outer s H vs Q E hr h => ?_)
  · obtain ⟨b, rfl, _⟩ := h
    rfl
  · have hr2 : Room 2 _ := hr.mono (by decide)
    refine ⟨_, pss_cons (ps_if (pt_cmpR op_gt (pe_callB call_len_str (by rfl) hl PySem.boot_len (pa_cons (pv 0) pa_nil)) (pe_glob (by rfl) mR rR) (nomark _))
        (pss_one (L2N.ps_raise rfl (L2N.takes_of rfl rfl rfl rfl) (pmk_bare PySem.F.excBase_Exception U.xF U.gF U.kF (raises_own U.bF U.tF) (by rfl)))) pss_nil)
      (pss_cons (ps_set (i := 1) sc_sgs.nd rfl (Or.inl rfl) (pe_ix ix_tup (pe_partition (pv 0) pe_str) pe_int (fun _ _ => rfl)))
      (pss_cons (ps_set (i := 2) sc_sgs.nd rfl (Or.inl rfl) (pe_lst pa_nil))
      (pss_cons (ps_set (i := 3) sc_sgs.nd rfl (Or.inl rfl) pe_int)
      (pss_cons (ps_while PassesOwn.leaving (pt_cmpR op_lt (pv 3) (pe_callB call_len_str (by rfl) hl PySem.boot_len (pa_cons (pv 1) pa_nil)) (nomark _))
        (pss_one (ps_if (pt_cmpR op_in_sign (pe_ix ix_str (pv 1) (pv 3) (fun _ _ => rfl)) (pe_glob (by rfl) mB rB) (by rfl))
          (pss_one (ps_aug (i := 3) sc_sgs.nd rfl (Or.inl rfl) pe_int ip_add))
          (pss_cons (ps_set (i := 4) sc_sgs.nd rfl (Or.inl rfl) (pe_callS FN hr (by rfl) mN kN bN (fun σ => L2N.passAt (L2N.takes_of rfl rfl rfl rfl) σ) (pa_cons (pv 1) (pa_cons (pv 3) pa_nil))))
          (pss_cons (ps_expr (pe_bm PySem.F.plainAttrs_list PySem.F.slot_list_append PySem.F.type_list_append mt_append (pv 2)
            (pa_cons (pe_callS FO hr2 (by rfl) mO kO bO (fun σ => L2N.passAt (L2N.takes_of rfl rfl rfl rfl) σ) (pa_cons (pe_slice sl_str (pv 1) (po_some (pv 3)) (po_some (pv 4))) pa_nil)) pa_nil)))
          (pss_one (ps_set (i := 3) sc_sgs.nd rfl (Or.inl rfl) (pv 4))))))))
      (pss_one (ps_ret (pv 2))))))), ?_⟩
    obtain ⟨b, rfl, hb, kF, kS⟩ := h
    have hz : (S b).length ≤ sizeLine := by rw [S_len]; exact Nat.le_trans hb (by decide)
    refine ⟨_, rfl, _, rfl, hz, _, _, rfl, rfl, _, rfl, ?_⟩
    rw [S_len]
    unfold signsOf at kF kS
    refine ite2 (fun c => kF (if_pos (by have := of_decide_eq_true c; omega)) H (Same.refl H)) (fun c => ?_)
    have hb2 : ¬ 255 < b.length := fun z => c (decide_eq_true (by omega))
    rw [if_neg hb2] at kF kS
    rw [sg_shown b.length b (Nat.le_refl _)] at kF kS
    refine ⟨_, rfl, ⟨_, rfl⟩, _, _, rfl, rfl, by decide +kernel, hz, fun q nq => ?_⟩
    rw [part_shown]
    refine ⟨_, _, _, _, rfl, rfl, .inl (.inl upd_same), rfl, ?_⟩
    refine ⟨by show 0 ≤ sizeLine; decide, fun p np => ?_⟩
    have hq : H q = none := nq
    have hp : H p = none := by
      by_cases e : p = q
      · rw [e]; exact nq
      · rwa [upd_ne e] at np
    have sh : ∀ o, Same H (upd (upd H q (.tup [.str (S (shown b)), .str (Txt.partition (S b) (Str.ofString ";")).2.1, .str (Txt.partition (S b) (Str.ofString ";")).2.2])) p o) := fun o x ob e => by
      rw [upd_ne (ne_of_none e hp), upd_ne (ne_of_none e hq)]
      exact e
    have hn59 := shown_no b
    have hls := shown_len b
    generalize shown b = d at *
    generalize upd H q (.tup [.str (S d), .str (Txt.partition (S b) (Str.ofString ";")).2.1, .str (Txt.partition (S b) (Str.ofString ";")).2.2]) = H1 at *
    have hzd : (S d).length ≤ sizeLine := by rw [S_len]; exact Nat.le_trans hls (Nat.le_trans hb (by decide))
    refine while_by (fun σ H' => ∃ (j : Nat) (acc : List Sf47.Sign) (v : Option V), σ = [some (.str (S b)), some (.str (S d)), some (.ref p), some (.int j), v] ∧ H' = upd H1 p (.lst (acc.map sv)) ∧ j ≤ d.length ∧ acc.length ≤ j ∧
        sg d = (sg (d.drop j)).map fun l => acc ++ l) (fun σ _ => match σ with | [_, _, _, some (.int j), _] => d.length - j.toNat | _ => 0) ⟨0, [], none, rfl, rfl, Nat.zero_le _, Nat.le_refl _, ?_⟩ ?_ ?_
    · rw [List.drop_zero]
      cases sg d <;> rfl
    · rintro σ H' ⟨j, acc, v, rfl, rfl, hj, ha, e⟩
      refine ⟨_, rfl, _, rfl, _, rfl, hzd, _, _, rfl, rfl, _, rfl, ?_⟩
      rw [S_len]
      refine ite2 (fun c => ?_) (fun c => ?_)
      · have c : j < d.length := by have := of_decide_eq_true c; omega
        obtain ⟨ch, hch⟩ : ∃ ch, d[j]? = some ch := ⟨d[j], List.getElem?_eq_getElem c⟩
        have dj := drop_at hch
        have n59 : ¬ ch = 59 := fun z => hn59 (by rw [← z]; exact List.mem_of_getElem? hch)
        rw [dj, sg_cons, if_neg n59] at e
        refine ⟨_, rfl, _, rfl, _, _, ch.toNat, rfl, rfl, hzd, S_at hch, _, _, rfl, rfl, _, rfl, ?_⟩
        rw [in_blanks]
        refine ite2 (fun cb => ?_) (fun cb => ?_)
        · rw [if_pos cb] at e
          refine ⟨_, rfl, _, _, rfl, rfl, ⟨j + 1, acc, v, rfl, rfl, c, by omega, e⟩, ?_⟩
          show d.length - ((j : Int) + 1).toNat < d.length - (j : Int).toNat
          omega
        · rw [if_neg cb, ← dj, tok_end] at e
          refine ⟨_, rfl, _, rfl, d, j, rfl, c, by omega, fun z => ?_, fun n hn => ?_⟩
          · rw [z] at e
            exact kF e _ (sh _)
          · rw [hn, Option.bind_some] at e
            have hpos := endLen_pos hn
            rw [List.length_drop] at hpos
            rw [dj] at hn
            obtain ⟨r', er, hm, hnt⟩ := ready hn
            rw [← dj] at er
            rw [er] at e
            refine ⟨_, rfl, .inl ⟨rfl, _, SqL.of upd_same⟩, _, rfl, _, rfl, _, rfl, _, rfl, _, rfl, _, rfl, hzd, ?_⟩
            rw [cut_S d j n (by omega), er]
            have hlr : (ch :: r').length ≤ 600 := by
              rw [← er, List.length_take, List.length_drop]
              omega
            refine ⟨ch, r', rfl, hlr, hm, hnt, fun z => ?_, fun sn hs => ?_⟩
            · rw [z] at e
              exact kF e _ (sh _)
            · refine ⟨p, _, _, rfl, rfl, upd_same, by rw [List.length_map]; exact Nat.lt_of_le_of_lt (Nat.le_trans ha hj) (Nat.lt_of_le_of_lt hls (Nat.lt_of_le_of_lt hb (by decide))), ?_⟩
              refine ⟨_, rfl, ⟨j + n, acc ++ [sn], _, rfl, ?_, by omega, by rw [List.length_append, List.length_singleton]; omega, ?_⟩, ?_⟩
              · rw [upd_upd, List.map_append]
                rfl
              · rw [hs, Option.map_some, Option.bind_some, List.drop_drop] at e
                rw [e]
                cases sg (d.drop (j + n)) with
                | none => rfl
                | some l => simp
              · show d.length - ((j + n : Nat) : Int).toNat < d.length - (j : Int).toNat
                omega
      · have c : ¬ j < d.length := fun z => c (decide_eq_true (by omega))
        have e0 : d.drop j = [] := List.drop_eq_nil_of_le (by omega)
        rw [e0] at e
        have e : sg d = some acc := by rw [e, sg_nil]; simp
        exact ⟨_, rfl, kS acc e _ p (sh _) hp upd_same⟩
    · rintro σ H2 Q1 Q2 hq ⟨v1, e1, v2, e2, x, e3, hz', i, j, e4, e5, k, e6, h⟩
      exact ⟨v1, e1, v2, e2, x, e3, hz', i, j, e4, e5, k, e6, hq _ _ h⟩
end
end Sl
set_option Elab.async false
set_option linter.all false
set_option maxRecDepth 100000
set_option maxHeartbeats 4000000
namespace Sl
open PySem PySem.Spec PyProof.Rows L2 SlM
/-! ### the table of the signs -/
def allSigns : Str := letters ++ digits ++ marks ++ blanks ++ others
def tbl : List Nat := allSigns.cps.toList
theorem tbl_nd : tbl.Nodup := by decide +kernel
theorem tbl_known (c : UInt8) : decide (c.toNat ∈ tbl) = known c := by
  have q := all_bytes (p := fun c => decide (c.toNat ∈ tbl) == known c) (by decide +kernel) c
  exact beq_iff_eq.mp q
def ent (l : List Nat) : List (Key × V) := l.map fun (c : Nat) => (Sum.inl (c : Int), V.str ⟨#[c]⟩)
theorem ent_val : ∀ (l : List Nat) (n : Nat), valV (ent l) (Sum.inl (n : Int)) = if n ∈ l then some (V.str ⟨#[n]⟩) else none
  | [], n => rfl
  | c :: r, n => by
    have ih := ent_val r n
    unfold valV ent at *
    rw [List.map_cons, List.find?_cons]
    by_cases e : c = n
    · subst e
      simp
    · have e' : ¬ ((Sum.inl (c : Int) : Key) = Sum.inl (n : Int)) := fun z => e (by have := Sum.inl.inj z; omega)
      rw [decide_eq_false e']
      have e2 : ¬ n = c := fun z => e z.symm
      simp only [List.mem_cons, e2, false_or]
      exact ih
theorem ent_put {l : List Nat} {c : Nat} (h : c ∉ l) : putK (ent l) (Sum.inl (c : Int)) (V.str ⟨#[c]⟩) = ent (l ++ [c]) := by
  rw [putK_new _ (by rw [ent_val, if_neg h])]
  unfold ent
  rw [List.map_append]
  rfl
theorem ent_len (l : List Nat) : (ent l).length = l.length := by unfold ent; rw [List.length_map]
/-- the sign that stands for a code -/
def code (n : Int) : UInt8 := nb (UInt8.ofNat n.toNat)
theorem get_code {n : Int} (h0 : 0 ≤ n) (h1 : n ≤ 255) : (valV (ent tbl) (Sum.inl n)).getD (V.str (Str.ofString "?")) = V.str (S [code n]) := by
  have e : n = ((n.toNat : Nat) : Int) := by omega
  have lt : n.toNat < 256 := by omega
  have t : (UInt8.ofNat n.toNat).toNat = n.toNat := by
    rw [UInt8.toNat_ofNat']
    exact Nat.mod_eq_of_lt lt
  have k := tbl_known (UInt8.ofNat n.toNat)
  rw [t] at k
  rw [e, ent_val]
  unfold code nb
  rw [← e]
  by_cases m : n.toNat ∈ tbl
  · rw [decide_eq_true m] at k
    rw [if_pos m, if_pos k.symm]
    show V.str ⟨#[n.toNat]⟩ = V.str ⟨#[(UInt8.ofNat n.toNat).toNat]⟩
    rw [t]
  · rw [decide_eq_false m] at k
    rw [if_neg m, if_neg (by rw [← k]; exact Bool.false_ne_true)]
    show V.str (Str.ofString "?") = V.str (S [63])
    rw [show Str.ofString "?" = S [63] from by decide +kernel]
theorem bytes_code (ns : List Int) : (Sf47Neutral.bytesOf ns).map nb = ns.map code := by
  unfold Sf47Neutral.bytesOf
  rw [List.map_map]
  rfl
theorem join_S (l : Bytes) : Txt.join (Str.ofString "") (l.map fun c => S [c]) = S l := by
  rw [TL.join_eq]
  have e : ∀ l : Bytes, TL.tl (Str.join (Str.ofString "") (l.map fun c => S [c])) = l.map UInt8.toNat := by
    intro l
    induction l with
    | nil => rfl
    | cons c r ih =>
      cases r with
      | nil => rfl
      | cons c' r' =>
        show TL.tl (S [c] ++ Str.ofString "" ++ Str.join (Str.ofString "") ((c' :: r').map fun c => S [c])) = _
        rw [TL.tl_append, TL.tl_append, ih, show TL.tl (Str.ofString "") = [] from by decide +kernel, List.append_nil]
        rfl
  exact TL.ext_tl (e l)
section
variable {P : Program} {w : World} {K : PySem.W.Frag} {mg : Str → Option Value} {base : Heap}
def spText (K : PySem.W.Frag) : Sp := fun vs H Q _ => ∃ (a : Addr) (ns : List Int), vs = [.ref a] ∧ SqL K H a (ns.map V.int) ∧ ns.length ≤ 65536 ∧ (∀ n ∈ ns, 0 ≤ n ∧ n ≤ 255) ∧ ∀ H', Same H H' → Q (.str (S (ns.map code))) H'
theorem sc_txt : FnScope ["codes", "characters", "character", "code"] ["codes"] (defScope s_text_of) := ⟨rfl, rfl, rfl, by decide +kernel, rfl, by decide +kernel, by decide +kernel⟩
theorem ok_text {f : Addr} {fd : FuncData} (F : Fun K "text_of" "text_of" s_text_of f fd) (cL : TxtC mg "LETTERS" (.str letters)) (cD : TxtC mg "DIGITS" (.str digits)) (cM : TxtC mg "MARKS" (.str marks)) (cB : TxtC mg "BLANKS" (.str blanks)) (cO : TxtC mg "OTHERS" (.str others))
    (cU : TxtC mg "UNKNOWN" (.str (Str.ofString "?"))) (ho : mg "ord" = none) : FnOk P w K mg base CX0 1 f fd ["codes"] (spText K) := by
  obtain ⟨uL, mL, rL⟩ := cL
  obtain ⟨uD, mD, rD⟩ := cD
  obtain ⟨uM, mM, rM⟩ := cM
  obtain ⟨uB, mB, rB⟩ := cB
  obtain ⟨uO, mO, rO⟩ := cO
  obtain ⟨uU, mU, rU⟩ := cU
  refine F.ok sc_txt (fun vs H Q E h => ?_) (fun cdv A outer s H vs Q E hr h => ?_)
  · obtain ⟨a, ns, rfl, _⟩ := h
    rfl
  · have hu := hu_of hr
    refine ⟨_, pss_cons (ps_set (i := 1) sc_txt.nd rfl (Or.inr rfl) pe_dnewK)
      (pss_cons (ps_for PassesOwn.never rfl (pi_str (pe_op op_add_str (pe_op op_add_str (pe_op op_add_str (pe_op op_add_str (pe_glob (by rfl) mL rL) (pe_glob (by rfl) mD rD)) (pe_glob (by rfl) mM rM)) (pe_glob (by rfl) mB rB)) (pe_glob (by rfl) mO rO)))
          (pg_name (i := 2) sc_txt.nd rfl (Or.inl rfl))
        (pss_one (ps_dput hu (pv 1) (pe_callB call_ord (by rfl) ho (by decide +kernel) (pa_cons (pv 2) pa_nil)) (pv 2) rfl)))
      (pss_one (ps_ret (pe_join pe_str (pe_lc (own := [("code", 3)]) (g := gName 3) (tt := tYes) rfl sc_txt.nd (pi_list (pv 0)) (blkOk_by (own := [("code", 3)]) (N := ["codes", "characters", "character", "code"]) (sc := defScope s_text_of) (by decide +kernel))
        (fun _ _ _ _ _ => pg_name (i := 3) sc_txt.nd rfl (Or.inl rfl)) (fun _ _ _ _ _ => pts_nil) (fun _ _ _ _ _ => pe_dget2 hu (pv 1) (pv 3) (pe_glob (by rfl) mU rU) ⟨rfl, rfl, rfl, rfl⟩)))))), ?_⟩
    obtain ⟨a, ns, rfl, hS, hl, hn, q⟩ := h
    intro d nd
    have sd : ∀ o, Same H (upd H d o) := fun o x ob e => by rw [upd_ne (ne_of_none e nd)]; exact e
    refine ⟨_, _, rfl, rfl, by decide, _, _, rfl, rfl, by decide, _, _, rfl, rfl, by decide, _, _, rfl, rfl, by decide, _, rfl, ?_⟩
    refine for_it (walk_str (z := allSigns)) (fun i σ H' => ∃ v : Option V, σ = [some (.ref a), some (.ref d), v, none] ∧ H' = upd H d (.dK (ent (tbl.take i)))) ⟨none, rfl, rfl⟩ (fun _ _ _ _ _ => trivial) ?_ ?_
    · rintro i x σ H1 H2 hi ⟨v, rfl, rfl⟩ ⟨rfl, c, hc, rfl⟩
      have hc' : tbl[i]? = some c := by
        unfold tbl
        rw [Array.getElem?_toList]
        exact hc
      refine ⟨_, rfl, _, rfl, _, rfl, _, rfl, rfl, d, _, rfl, DPut.k (k := Sum.inl (c : Int)) upd_same (by rw [ent_len, List.length_take]; exact Nat.lt_of_le_of_lt (Nat.min_le_right _ _) (by decide +kernel)), ?_⟩
      refine ⟨_, rfl, ?_⟩
      rw [upd_upd]
      have nin : c ∉ tbl.take i := fun hm => by
        have hlt : i < tbl.length := (List.getElem?_eq_some_iff.mp hc').1
        obtain ⟨j, hj, ej⟩ := List.mem_take_iff_getElem.mp hm
        have e1 : tbl[j]? = some c := by rw [← ej, List.getElem?_eq_getElem]
        have := nd_ix tbl_nd hc' e1
        omega
      show upd H d (.dK (putK (ent (tbl.take i)) (Sum.inl (c : Int)) (V.str ⟨#[c]⟩))) = _
      rw [ent_put nin, List.take_succ, hc']
      rfl
    · rintro σ H1 ⟨v, rfl, rfl⟩
      have et : tbl.take allSigns.cps.size = tbl := List.take_of_length_le (by unfold tbl; simp)
      rw [et]
      refine ⟨⟨_, rfl⟩, _, rfl, a, rfl, ⟨_, (sd _).seq hS⟩, fun D nD => ?_⟩
      have nDH : H D = none := by
        by_cases e : D = d
        · rw [e]; exact nd
        · rwa [upd_ne e] at nD
      have neD : d ≠ D := fun e => by
        rw [← e, upd_same] at nD
        cases nD
      refine lc_list (K := K) (a := a) (xs := ns.map V.int) (fun i H' => H' D = some (.lst ((ns.take i).map fun n => V.str (S [code n]))) ∧ H' d = some (.dK (ent tbl)) ∧ Same H H') ⟨upd_same, ?_, ?_⟩ (fun i H' _ h => h.2.2.seq hS) ?_ ?_
      · rw [upd_ne neD, upd_same]
      · intro x o e
        rw [upd_ne (ne_of_none e nDH), upd_ne (ne_of_none e nd)]
        exact e
      · rintro i x H' hx ⟨h1, h2, h3⟩
        obtain ⟨n, hn', rfl⟩ : ∃ n, ns[i]? = some n ∧ x = V.int n := by
          rw [List.getElem?_map] at hx
          cases e : ns[i]? with
          | none =>
            rw [e] at hx
            cases hx
          | some z =>
            rw [e] at hx
            exact ⟨z, rfl, (Option.some.inj hx).symm⟩
        have hmem := hn n (List.mem_of_getElem? hn')
        refine ⟨rfl, ?_⟩
        dsimp only [tYes]
        rw [if_pos rfl]
        refine ⟨_, rfl, d, rfl, .inl ⟨_, .inl h2⟩, _, rfl, _, DGet.k (k := Sum.inl n) h2, ?_⟩
        rw [get_code hmem.1 hmem.2]
        refine ⟨_, h1, by rw [List.length_map, List.length_take]; exact Nat.lt_of_le_of_lt (Nat.le_trans (Nat.min_le_right _ _) hl) (by decide), upd_same.trans ?_, by rw [upd_ne neD]; exact h2, fun x o e => ?_⟩
        · rw [List.take_succ, hn', List.map_append]
          rfl
        · rw [upd_ne (ne_of_none e nDH)]
          exact h3 x o e
      · rintro H' ⟨h1, h2, h3⟩
        rw [List.length_map, List.take_length] at h1
        have e : (ns.map fun n => V.str (S [code n])) = ((ns.map code).map fun c => S [c]).map V.str := by
          rw [List.map_map, List.map_map]
          rfl
        rw [e] at h1
        refine ⟨_, D, (ns.map code).map (fun c => S [c]), rfl, rfl, .inl (SqL.of h1), ?_, ?_⟩
        · have e2 : (((ns.map code).map fun c => S [c]).map (·.length)).sum = ns.length := by
            rw [List.map_map, List.map_map]
            clear e h1 h2 h3 hS hl hn q
            induction ns with
            | nil => rfl
            | cons n r ih =>
              rw [List.map_cons, List.sum_cons, ih, List.length_cons]
              show (S [code n]).length + r.length = r.length + 1
              rw [S_len]
              exact Nat.add_comm _ _
          rw [e2, show (Str.ofString "").length = 0 from by decide +kernel, Nat.mul_zero, Nat.add_zero]
          exact Nat.le_trans hl (by decide)
        · rw [join_S]
          exact q H' h3
/-! ### rows_of -/
theorem spl_lines : ∀ (l w : Bytes), ∃ R z, TL.spl [10] 0 (w.map UInt8.toNat) (l.map UInt8.toNat) = R ++ [z] ∧ (Sf47.linesOf l w).map (fun b => b.map UInt8.toNat) = if z = [] then R else R ++ [z]
  | [], w => by
    refine ⟨[], w.map UInt8.toNat, by rw [List.map_nil, TL.spl_nil]; rfl, ?_⟩
    cases w with
    | nil => rfl
    | cons c r => rfl
  | c :: r, w => by
    rw [List.map_cons]
    by_cases e : c = 10
    · subst e
      obtain ⟨R, z, h1, h2⟩ := spl_lines r []
      refine ⟨w.map UInt8.toNat :: R, z, ?_, ?_⟩
      · rw [TL.spl_hit (by simp [TL.pre])]
        show _ :: TL.spl [10] 0 [] _ = _
        rw [List.map_nil] at h1
        rw [h1]
        rfl
      · show (w :: Sf47.linesOf r []).map _ = _
        rw [List.map_cons, h2]
        split <;> rfl
    · have hn : TL.pre [10] (c.toNat :: r.map UInt8.toNat) = false := TL.pre_of_head [] _ fun z => e (toNat_inj (b := 10) z)
      obtain ⟨R, z, h1, h2⟩ := spl_lines r (w ++ [c])
      refine ⟨R, z, ?_, ?_⟩
      · rw [TL.spl_miss hn]
        rw [List.map_append] at h1
        exact h1
      · rw [show Sf47.linesOf (c :: r) w = Sf47.linesOf r (w ++ [c]) from if_neg e]
        exact h2
theorem snoc_map {α β : Type} {f : α → β} : ∀ {l : List α} {R : List β} {z : β}, l.map f = R ++ [z] → ∃ l' x, l = l' ++ [x] ∧ l'.map f = R ∧ f x = z
  | [], R, z, h => by cases R <;> simp at h
  | a :: r, [], z, h => by
    rw [List.map_cons, List.nil_append] at h
    obtain ⟨h1, h2⟩ := List.cons.inj h
    have := List.map_eq_nil_iff.mp h2
    subst this
    exact ⟨[], a, rfl, rfl, h1⟩
  | a :: r, b :: R, z, h => by
    rw [List.map_cons, List.cons_append] at h
    obtain ⟨h1, h2⟩ := List.cons.inj h
    obtain ⟨l', x, e1, e2, e3⟩ := snoc_map h2
    exact ⟨a :: l', x, by rw [e1]; rfl, by rw [List.map_cons, h1, e2], e3⟩
theorem map_S {l : List Str} {bs : List Bytes} (h : l.map TL.tl = bs.map fun b => b.map UInt8.toNat) : l = bs.map S := by
  refine TL.map_tl_inj ?_
  rw [h, List.map_map]
  rfl
def spRows (K : PySem.W.Frag) : Sp := fun vs H Q _ => ∃ (a : Addr) (ns : List Int), vs = [.ref a] ∧ SqL K H a (ns.map V.int) ∧ ns.length ≤ 65536 ∧ (∀ n ∈ ns, 0 ≤ n ∧ n ≤ 255) ∧
  ∀ H' p, Same H H' → H p = none → H' p = some (.lst ((Sf47.linesOf (ns.map code) []).map fun b => V.str (S b))) → Q (.ref p) H'
theorem sc_rws : FnScope ["codes", "rows"] ["codes"] (defScope s_rows_of) := ⟨rfl, rfl, rfl, by decide +kernel, rfl, by decide +kernel, by decide +kernel⟩
theorem ok_rows {f : Addr} {fd : FuncData} (F : Fun K "rows_of" "rows_of" s_rows_of f fd) (T : Df P w K mg base CX0 1 "text_of" ["codes"] (spText K)) : FnOk P w K mg base CX0 2 f fd ["codes"] (spRows K) := by
  obtain ⟨fT, fdT, mT, kT, bT, FT⟩ := T
  refine F.ok sc_rws (fun vs H Q E h => ?_) (fun cdv A outer s H vs Q E hr h => ?_)
  · obtain ⟨a, ns, rfl, _⟩ := h
    rfl
  · refine ⟨_, pss_cons (ps_set (i := 1) sc_rws.nd rfl (Or.inl rfl) (pe_split (pe_call FT hr (by rfl) mT kT bT .nil pass0 (pa_cons (pv 0) pa_nil)) pe_str))
      (pss_cons (ps_if (pt_cmpR op_eq (pe_ix ix_list (pv 1) (pe_un un_neg pe_int) (fun _ _ => rfl)) pe_str (nomark _))
        (pss_one (ps_expr (pe_bm0 PySem.F.plainAttrs_list PySem.F.slot_list_pop PySem.F.type_list_pop mt_pop (pv 1)))) pss_nil)
      (pss_one (ps_ret (pv 1)))), ?_⟩
    obtain ⟨a, ns, rfl, hS, hl, hn, q⟩ := h
    refine ⟨_, rfl, a, ns, rfl, hS, hl, hn, fun H1 s1 => ⟨⟨_, rfl⟩, _, _, rfl, rfl, by decide +kernel, ?_, fun p np => ?_⟩⟩
    · rw [S_len, List.length_map]
      exact Nat.le_trans (Nat.add_le_add_right hl 2) (by decide)
    · obtain ⟨R, z, h1, h2⟩ := spl_lines (ns.map code) []
      have hp := TL.split_spl (S (ns.map code)) (Str.ofString "\n") (by decide +kernel) (TL.kind_ok (by decide +kernel))
      rw [show TL.tl (Str.ofString "\n") = [10] from by decide +kernel] at hp
      rw [List.map_nil] at h1
      have hp : (Txt.split (S (ns.map code)) (Str.ofString "\n")).map TL.tl = R ++ [z] := hp.trans h1
      generalize Txt.split (S (ns.map code)) (Str.ofString "\n") = X at hp ⊢
      obtain ⟨l', x, rfl, e1, e2⟩ := snoc_map hp
      have npH : H p = none := s1.free np
      have same : ∀ o, Same H (upd H1 p o) := fun o y ob e => by rw [upd_ne (ne_of_none e npH)]; exact s1 y ob e
      rw [List.map_append, List.map_singleton]
      refine ⟨_, rfl, _, rfl, _, _, _, _, rfl, rfl, SqL.of upd_same, atI_last _ _, rfl, _, rfl, ?_⟩
      refine ite2 (fun c => ?_) (fun c => ?_)
      · have hx : x = Str.ofString "" := V.str.inj (of_decide_eq_true c)
        have hz : z = [] := by rw [← e2, hx]; decide +kernel
        rw [if_pos hz] at h2
        have el : l' = (Sf47.linesOf (ns.map code) []).map S := map_S (by rw [e1, h2])
        refine ⟨_, rfl, .inl ⟨rfl, _, SqL.of upd_same⟩, p, _, V.str x, rfl, rfl, upd_same, by simp, ?_⟩
        refine ⟨_, rfl, q _ p ?_ npH ?_⟩
        · rw [upd_upd]
          exact same _
        · rw [upd_upd, upd_same, List.dropLast_concat, el, List.map_map]
          rfl
      · have hz : ¬ z = [] := fun hz => c (decide_eq_true (congrArg V.str (TL.ext_tl (by rw [e2, hz]; decide +kernel))))
        rw [if_neg hz] at h2
        have el : l' ++ [x] = (Sf47.linesOf (ns.map code) []).map S := map_S (by rw [hp, h2])
        refine ⟨_, rfl, q _ p (same _) npH ?_⟩
        rw [upd_same]
        have e3 : l'.map V.str ++ [V.str x] = (l' ++ [x]).map V.str := by rw [List.map_append]; rfl
        rw [e3, el, List.map_map]
        rfl
end
end Sl
set_option Elab.async false
set_option linter.all false
set_option maxRecDepth 100000
set_option maxHeartbeats 4000000
namespace Sl
open PySem PySem.Spec PyProof.Rows L2 SlM
/-! ### tables -/
theorem relV_inj {a b : V} {u : Value} (ha : L2.RelV a u) (hb : L2.RelV b u) : a = b := by
  cases a <;> cases b <;> simp only [L2.RelV] at ha hb <;> first
    | rfl
    | (subst ha; cases hb; rfl; done)
    | (subst ha; cases hb; done)
    | (subst ha; obtain ⟨t, e⟩ := hb; cases e; done)
    | (obtain ⟨t, rfl⟩ := ha; cases hb; done)
    | (obtain ⟨t, rfl⟩ := ha; obtain ⟨t2, e⟩ := hb; cases e; rfl; done)
    | (obtain ⟨t, rfl⟩ := ha; obtain ⟨t2, e⟩ := hb; cases e; done)
theorem lookup_S {β γ : Type} (g : β → γ) (w : Bytes) : ∀ ps : List (Bytes × β), (ps.map fun p => (S p.1, g p.2)).lookup (S w) = (ps.lookup w).map g
  | [] => rfl
  | (n, b) :: r => by
    rw [List.map_cons, List.lookup_cons, List.lookup_cons]
    have e : (S w == S n) = (w == n) := by
      by_cases c : w = n
      · rw [c, beq_self_eq_true, beq_self_eq_true]
      · rw [beq_eq_false_iff_ne.mpr c, beq_eq_false_iff_ne.mpr fun z => c (S_inj z)]
    rw [e]
    cases c : (w == n) with
    | true => rfl
    | false => exact lookup_S g w r
theorem size_look (x : UInt8) : sizeT.lookup [x] = (sizes.lookup x).map fun n => (n : Int) := by
  have e : ∀ c : UInt8, (([x] : Bytes) == [c]) = (x == c) := fun c => by
    by_cases q : x = c
    · rw [q, beq_self_eq_true, beq_self_eq_true]
    · rw [beq_eq_false_iff_ne.mpr q, beq_eq_false_iff_ne.mpr fun z => q (List.cons.inj z).1]
  unfold sizeT sizes
  rw [show Sf47.txt "I" = [73] from by decide +kernel, show Sf47.txt "Q" = [81] from by decide +kernel, show Sf47.txt "M" = [77] from by decide +kernel, show Sf47.txt "T" = [84] from by decide +kernel,
    show Sf47.txt "C" = [67] from by decide +kernel, show Sf47.txt "W" = [87] from by decide +kernel, show Sf47.txt "E" = [69] from by decide +kernel, show Sf47.txt "V" = [86] from by decide +kernel]
  simp only [List.lookup_cons, e]
  cases x == 73 <;> cases x == 81 <;> cases x == 77 <;> cases x == 84 <;> cases x == 67 <;> cases x == 87 <;> cases x == 69 <;> cases x == 86 <;> rfl
theorem const_look (w : Bytes) : constT.lookup w = if w = Sf47.txt "TRUE" then some 1 else if w = Sf47.txt "FALSE" then some 0 else none := by
  unfold constT
  simp only [List.lookup_cons]
  by_cases t : w = Sf47.txt "TRUE"
  · subst t
    decide +kernel
  · by_cases f : w = Sf47.txt "FALSE"
    · subst f
      decide +kernel
    · rw [if_neg t, if_neg f, beq_eq_false_iff_ne.mpr t, beq_eq_false_iff_ne.mpr f]
      rfl
/-- a table of numbers of the top -/
def NumTab (K : PySem.W.Frag) (w : World) (mg : Str → Option Value) (x : Str) (ps : List (Bytes × Int)) : Prop := ∃ d, mg x = some (.ref d) ∧ KTab K w d L2.RelV (ps.map fun p => (S p.1, V.int p.2))
/-- a table of tuples of texts -/
def TupTab (K : PySem.W.Frag) (w : World) (mg : Str → Option Value) (x : Str) (ps : List (Bytes × List Bytes)) : Prop := ∃ d, mg x = some (.ref d) ∧ KTab K w d (fun ks u => KTup K (ks.map fun b => V.str (S b)) u) (ps.map fun p => (S p.1, p.2))
/-- a tuple of texts of the top -/
def TupC (K : PySem.W.Frag) (mg : Str → Option Value) (x : Str) (ks : List Bytes) : Prop := ∃ u, mg x = some u ∧ KTup K (ks.map fun b => V.str (S b)) u
theorem in_strs (k : Bytes) : ∀ ks : List Bytes, inV (.str (S k)) (ks.map fun b => V.str (S b)) = ks.contains k
  | [] => rfl
  | a :: r => by
    have ih := in_strs k r
    unfold inV at ih ⊢
    rw [List.map_cons, List.any_cons, ih, List.contains_cons]
    have e : eqV (.str (S a)) (.str (S k)) = (k == a) := by
      show (S a == S k) = (k == a)
      by_cases c : k = a
      · rw [c, beq_self_eq_true, beq_self_eq_true]
      · rw [beq_eq_false_iff_ne.mpr c, beq_eq_false_iff_ne.mpr fun z => c (S_inj z).symm]
    rw [e]
theorem flat_strs (ks : List Bytes) : (ks.map fun b => V.str (S b)).all flatV = true := by
  rw [List.all_map]
  exact List.all_eq_true.mpr fun _ _ => rfl
theorem cut_tail (x : UInt8) (d : Bytes) : cutS (S (x :: d)) (some 1) none = S d := by
  unfold cutS
  rw [HT.sIx_none, show (some (1 : Int)) = some ((1 : Nat) : Int) from rfl, HT.sIx_nat, S_len, List.length_cons, show min 1 (d.length + 1) = 1 from by omega, S_list]
  show (⟨((d.map UInt8.toNat).take (d.length + 1 - 1)).toArray⟩ : Str) = S d
  rw [List.take_of_length_le (by rw [List.length_map]; omega)]
  rfl
section
variable {P : Program} {w : World} {K : PySem.W.Frag} {mg : Str → Option Value} {base : Heap} {CU : Addr}
/-! ### named_value -/
def spNamed : Sp := fun vs H Q _ => ∃ (x : UInt8) (d : Bytes), vs = [.str (S (x :: d))] ∧ (x :: d).length ≤ 500 ∧ (∀ c ∈ d, Sf47.inWord c = true) ∧ (nameKV (x :: d) = none → Q .non H) ∧
  (∀ k z, nameKV (x :: d) = some (k, z) → ∀ p, H p = none → Q (.ref p) (upd H p (.tup [.str (S k), .int z])))
theorem sc_nmv : FnScope ["word", "kind", "digits", "number"] ["word"] (defScope s_named_value) := ⟨rfl, rfl, rfl, by decide +kernel, rfl, by decide +kernel, by decide +kernel⟩
theorem ok_named {f : Addr} {fd : FuncData} (F : Fun K "named_value" "named_value" s_named_value f fd) (C : NumTab K w mg "CONSTANTS" constT) (Z : NumTab K w mg "SIZES" sizeT) (hi : mg "int" = none)
    (N : Df P w K mg base CX0 1 "is_plain_number" ["digits"] spPlain) : FnOk P w K mg base CX0 2 f fd ["word"] spNamed := by
  obtain ⟨fN, fdN, mN, kN, bN, FN⟩ := N
  obtain ⟨dC, mC, TC⟩ := C
  obtain ⟨dZ, mZ, TZ⟩ := Z
  have hR : ∀ (b : V) (u : Value), L2.RelV b u → ∃ v, L2.RelV v u := fun b u r => ⟨b, r⟩
  refine F.ok sc_nmv (fun vs H Q E h => ?_) (fun cdv A outer s H vs Q E hr h => ?_)
  · obtain ⟨x, d, rfl, _⟩ := h
    rfl
  · refine ⟨_, pss_cons (ps_if (pt_cmpR (op_in_tab TC) (pv 0) (pe_glob (v := .ref dC) (by rfl) mC rfl) (by rfl)) (pss_one (ps_ret (pe_tup (pa_cons pe_str (pa_cons (pe_ix (ix_tab TC hR) (pe_glob (v := .ref dC) (by rfl) mC rfl) (pv 0) (fun _ _ => rfl)) pa_nil))))) pss_nil)
      (pss_cons (ps_set (i := 1) sc_nmv.nd rfl (Or.inl rfl) (pe_ix ix_str (pv 0) pe_int (fun _ _ => rfl)))
      (pss_cons (ps_set (i := 2) sc_nmv.nd rfl (Or.inl rfl) (pe_slice sl_str (pv 0) (po_some pe_int) po_none))
      (pss_cons (ps_if (PW.pt (pw_or (pt_cmpR (op_notIn_tab TZ) (pv 1) (pe_glob (v := .ref dZ) (by rfl) mZ rfl) (by rfl)) (pw_or1 (pt_not (pt_val (pe_call FN hr (by rfl) mN kN bN .nil pass0 (pa_cons (pv 2) pa_nil)))))))
        (pss_one (ps_ret pe_non)) pss_nil)
      (pss_cons (ps_set (i := 3) sc_nmv.nd rfl (Or.inl rfl) (pe_callTy call_int_str (by rfl) hi (by decide +kernel) (pa_cons (pv 2) pa_nil)))
      (pss_cons (ps_if (pt_cmpR op_ge (pv 3) (pe_ix (ix_tab TZ hR) (pe_glob (v := .ref dZ) (by rfl) mZ rfl) (pv 1) (fun _ _ => rfl)) (nomark _)) (pss_one (ps_ret pe_non)) pss_nil)
      (pss_one (ps_ret (pe_tup (pa_cons (pv 1) (pa_cons (pv 3) pa_nil)))))))))), ?_⟩
    obtain ⟨x, d, rfl, hl, hd, kN, kS⟩ := h
    have hz : (S (x :: d)).length ≤ sizeLine := by rw [S_len]; exact Nat.le_trans hl (by decide)
    have hc := const_look (x :: d)
    have hcS := lookup_S V.int (x :: d) constT
    rw [hc] at hcS
    unfold nameKV at kN kS
    refine ⟨_, rfl, rfl, .inl ⟨_, rfl, _, rfl, ?_⟩⟩
    rw [hcS, Bool.bne_false]
    by_cases t : x :: d = Sf47.txt "TRUE"
    · rw [if_pos t] at kS
      rw [if_pos t] at hcS ⊢
      refine iteT ⟨_, rfl, _, V.int 1, rfl, rfl, hcS, fun v u r1 r2 => ?_⟩
      rw [← relV_inj r1 r2]
      exact ⟨by show 2 ≤ sizeLine; decide, fun p np => kS _ _ rfl p np⟩
    rw [if_neg t] at kN kS
    rw [if_neg t] at hcS ⊢
    by_cases f : x :: d = Sf47.txt "FALSE"
    · rw [if_pos f] at kS
      rw [if_pos f] at hcS ⊢
      refine iteT ⟨_, rfl, _, V.int 0, rfl, rfl, hcS, fun v u r1 r2 => ?_⟩
      rw [← relV_inj r1 r2]
      exact ⟨by show 2 ≤ sizeLine; decide, fun p np => kS _ _ rfl p np⟩
    rw [if_neg f] at kN kS
    dsimp only at kN kS
    rw [if_neg f] at hcS ⊢
    refine iteF ?_
    refine ⟨_, rfl, _, _, x.toNat, rfl, rfl, hz, S_at (k := 0) rfl, ?_⟩
    refine ⟨_, rfl, _, rfl, _, rfl, hz, ?_⟩
    rw [cut_tail]
    have hsz := lookup_S V.int [x] sizeT
    rw [size_look] at hsz
    have ex : (⟨#[x.toNat]⟩ : Str) = S [x] := rfl
    rw [ex]
    refine ⟨_, rfl, rfl, .inl ⟨_, rfl, _, rfl, ?_⟩⟩
    rw [hsz, Bool.bne_true]
    cases hx : sizes.lookup x with
    | none =>
      rw [hx] at kN
      exact iteT (iteT (kN rfl))
    | some most =>
      rw [hx] at kN kS hsz
      have kN : (if SlM.plain d = true then (if Sf47.number d < most then some ([x], (Sf47.number d : Int)) else none) else none) = none → Q .non H := kN
      have kS : ∀ k z, (if SlM.plain d = true then (if Sf47.number d < most then some (([x] : Bytes), (Sf47.number d : Int)) else none) else none) = some (k, z) → ∀ p, H p = none → Q (.ref p) (upd H p (.tup [.str (S k), .int z])) := kS
      refine iteF ?_
      refine ⟨_, rfl, d, rfl, by rw [List.length_cons] at hl; omega, hd, _, rfl, ?_⟩
      by_cases pl : SlM.plain d = true
      · rw [if_pos pl] at kN kS
        rw [pl]
        refine iteF ?_
        have nt : NumText d := ⟨d, ((plain_iff d).mp pl).1, ((plain_iff d).mp pl).2.1, .inl rfl⟩
        have nv : numVal d = (Sf47.number d : Int) := digit_head ((plain_iff d).mp pl).2.1 ((plain_iff d).mp pl).1
        rw [List.length_cons] at hl
        refine ⟨_, rfl, _, _, rfl, int_text nt (by omega), by rw [S_len]; omega, ?_⟩
        rw [nv]
        refine ⟨_, rfl, _, rfl, _, V.int most, rfl, rfl, hsz, fun v u r1 r2 => ?_⟩
        rw [← relV_inj r1 r2]
        refine ⟨_, _, rfl, rfl, _, rfl, ?_⟩
        refine ite2 (fun c => kN (if_neg ?_)) (fun c => ?_)
        · have := of_decide_eq_true c
          omega
        · have lt : Sf47.number d < most := by
            by_cases z : Sf47.number d < most
            · exact z
            · exact absurd (decide_eq_true (by omega)) c
          exact ⟨_, rfl, _, rfl, by show 2 ≤ sizeLine; decide, fun p np => kS _ _ (if_pos lt) p np⟩
      · rw [if_neg pl] at kN
        rw [Bool.eq_false_iff.mpr pl]
        exact iteT (kN rfl)
/-! ### value_of, label_of -/
def spValue (CU : Addr) : Sp := fun vs H Q E => ∃ s : Sf47.Sign, vs = [sv s] ∧ Proper s ∧ (valueOf s = none → E (.ref CU) none H) ∧ (∀ k z, valueOf s = some (k, z) → ∀ p, H p = none → Q (.ref p) (upd H p (.tup [.str (S k), .int z])))
theorem sc_val : FnScope ["sign", "value"] ["sign"] (defScope s_value_of) := ⟨rfl, rfl, rfl, by decide +kernel, rfl, by decide +kernel, by decide +kernel⟩
theorem ok_value {f : Addr} {fd : FuncData} (F : Fun K "value_of" "value_of" s_value_of f fd) (U : UnTxt K mg CU) (hi : mg "isinstance" = none) (hn : mg "int" = none) (N : Df P w K mg base CX0 2 "named_value" ["word"] spNamed) : FnOk P w K mg base (L2N.CX P w) 3 f fd ["sign"] (spValue CU) := by
  obtain ⟨fN, fdN, mN, kN, bN, FN⟩ := N
  refine okN F sc_val (fun vs H Q E h => ?_) (fun cdv A outer s H vs Q E hr h => ?_)
  · obtain ⟨s, rfl, _⟩ := h
    rfl
  · refine ⟨_, pss_cons (ps_if (pt_val (pe_callB call_isi (by rfl) hi (by decide +kernel) (pa_cons (pv 0) (pa_cons (pe_bltn (v := .ty "int") (by rfl) hn (by decide +kernel) rfl) pa_nil)))) (pss_one (ps_ret (pe_tup (pa_cons pe_str (pa_cons (pv 0) pa_nil))))) pss_nil)
      (pss_cons (ps_set (i := 1) sc_val.nd rfl (Or.inl rfl) (pe_call FN hr (by rfl) mN kN bN .nil pass0 (pa_cons (pv 0) pa_nil)))
      (pss_cons (ps_if (pt_cmpR op_isN (pv 1) pe_non (nomark _)) (pss_one (L2N.ps_raise rfl (L2N.takes_of rfl rfl rfl rfl) (pmk_bare PySem.F.excBase_Exception U.xF U.gF U.kF (raises_own U.bF U.tF) (by rfl)))) pss_nil)
      (pss_one (ps_ret (pv 1))))), ?_⟩
    obtain ⟨sn, rfl, hp, kF, kS⟩ := h
    have tx : ∀ (x : UInt8) (d : Bytes), sv sn = .str (S (x :: d)) → (x :: d).length ≤ 500 → (∀ c ∈ d, Sf47.inWord c = true) → valueOf sn = nameKV (x :: d) →
        ∃ v, (start ["sign", "value"] [sv sn])[0]? = some (some v) ∧ ∃ (x : V) (c : V) (t u : Value) (b : Bool), [v, V.ty "int"] = [x, c] ∧ ClsV c u ∧ TyX K H x t ∧ PySem.W.kitOne K t u = some b ∧ ∃ c, V.bl b = V.bl c ∧
          if c = true then ∃ v, (start ["sign", "value"] [sv sn])[0]? = some (some v) ∧ [V.str (Str.ofString "number"), v].length ≤ sizeLine ∧ ∀ p, H p = none → Q (.ref p) (upd H p (.tup [V.str (Str.ofString "number"), v]))
          else ∃ v, (start ["sign", "value"] [sv sn])[0]? = some (some v) ∧ spNamed ([v] ++ []) H (fun x H1 => ∃ v, ((start ["sign", "value"] [sv sn]).set 1 (some x))[1]? = some (some v) ∧ V.non = V.non ∧ ∃ c, V.bl (decide (v = .non)) = V.bl c ∧
            if c = true then E (.ref CU) none H1 else ∃ v, ((start ["sign", "value"] [sv sn]).set 1 (some x))[1]? = some (some v) ∧ Q v H1) E0 := by
      intro x d e hl hd ev
      rw [ev] at kF kS
      rw [e]
      refine ⟨_, rfl, _, _, .type "str", _, false, rfl, .ty "int", .base (.str _), kit_ty (by decide +kernel), _, rfl, iteF ?_⟩
      refine ⟨_, rfl, x, d, rfl, hl, hd, fun z => ?_, fun k z hk p np => ?_⟩
      · exact ⟨_, rfl, rfl, _, rfl, iteT (kF z)⟩
      · exact ⟨_, rfl, rfl, _, rfl, if_f (decide_eq_false (by intro z; cases z)) ⟨_, rfl, kS k z hk p np⟩⟩
    cases sn with
    | word w =>
      obtain ⟨c, r, rfl, hb, hi, hl⟩ := hp
      exact tx c r rfl (Nat.le_trans hl (by decide)) hi rfl
    | num z =>
      refine ⟨_, rfl, _, _, .type "int", _, true, rfl, .ty "int", .base (.int _), kit_ty (by decide +kernel), _, rfl, iteT ?_⟩
      refine ⟨_, rfl, by show 2 ≤ sizeLine; decide, fun p np => ?_⟩
      have q := kS _ _ rfl p np
      rw [← S_txt "number"] at q
      exact q
    | colon => exact tx 58 [] rfl (by decide) (by simp) (by decide +kernel)
    | open_ => exact tx 40 [] rfl (by decide) (by simp) (by decide +kernel)
    | close => exact tx 41 [] rfl (by decide) (by simp) (by decide +kernel)
def spLabelOf (CU : Addr) : Sp := fun vs H Q E => ∃ s : Sf47.Sign, vs = [sv s] ∧ Proper s ∧ (isW s = false → E (.ref CU) none H) ∧ (∀ w, s = .word w → ∀ p, H p = none → Q (.ref p) (upd H p (.tup [.str (S (Sf47.txt "label")), .str (S w)])))
theorem sc_lbo : FnScope ["sign"] ["sign"] (defScope s_label_of) := ⟨rfl, rfl, rfl, by decide +kernel, rfl, by decide +kernel, by decide +kernel⟩
theorem ok_labelOf {f : Addr} {fd : FuncData} (F : Fun K "label_of" "label_of" s_label_of f fd) (U : UnTxt K mg CU) (N : Df P w K mg base CX0 1 "is_word" ["sign"] spIsWord) : FnOk P w K mg base (L2N.CX P w) 2 f fd ["sign"] (spLabelOf CU) := by
  obtain ⟨fN, fdN, mN, kN, bN, FN⟩ := N
  refine okN F sc_lbo (fun vs H Q E h => ?_) (fun cdv A outer s H vs Q E hr h => ?_)
  · obtain ⟨s, rfl, _⟩ := h
    rfl
  · refine ⟨_, pss_cons (ps_if (pt_not (pt_val (pe_call FN hr (by rfl) mN kN bN .nil pass0 (pa_cons (pv 0) pa_nil)))) (pss_one (L2N.ps_raise rfl (L2N.takes_of rfl rfl rfl rfl) (pmk_bare PySem.F.excBase_Exception U.xF U.gF U.kF (raises_own U.bF U.tF) (by rfl)))) pss_nil)
      (pss_one (ps_ret (pe_tup (pa_cons pe_str (pa_cons (pv 0) pa_nil))))), ?_⟩
    obtain ⟨sn, rfl, hp, kF, kS⟩ := h
    refine ⟨_, rfl, sn, rfl, hp, _, rfl, ?_⟩
    cases sn with
    | word w =>
      refine iteF ⟨_, rfl, by show 2 ≤ sizeLine; decide, fun p np => ?_⟩
      have q := kS w rfl p np
      rw [← S_txt "label"] at q
      exact q
    | _ => exact iteT (kF rfl)
end
end Sl
set_option Elab.async false
set_option linter.all false
set_option maxRecDepth 100000
set_option maxHeartbeats 4000000
namespace Sl
open PySem PySem.Spec PyProof.Rows L2 SlM
def opdV : Opd → List V
  | (k, .inl w) => [.str (S k), .str (S w)]
  | (k, .inr z) => [.str (S k), .int z]
theorem same_upd {H H' : Hp} {p : Addr} {o : HO} (s : Same H H') (n : H p = none) : Same H (upd H' p o) := fun b ob e => by
  rw [upd_ne (ne_of_none e n)]
  exact s b ob e
section
variable {P : Program} {w : World} {K : PySem.W.Frag} {mg : Str → Option Value} {base : Heap} {CU : Addr}
/-! ### read_operand -/
def spOpd (CU : Addr) : Sp := fun vs H Q E => ∃ (s : Sf47.Sign) (f : Bytes), vs = [sv s, .str (S f)] ∧ Proper s ∧ (kinds.lookup f).isSome = true ∧ (readOp s f = none → ∀ H', Same H H' → E (.ref CU) none H') ∧
  (∀ o, readOp s f = some o → ∀ p, H p = none → Q (.ref p) (upd H p (.tup (opdV o))))
theorem sc_opd : FnScope ["sign", "form", "operand"] ["sign", "form"] (defScope s_read_operand) := ⟨rfl, rfl, rfl, by decide +kernel, rfl, by decide +kernel, by decide +kernel⟩
theorem str_eq (a b : Bytes) : decide (V.str (S a) = V.str (S b)) = decide (a = b) := by
  by_cases q : a = b
  · rw [q, decide_eq_true rfl, decide_eq_true rfl]
  · rw [decide_eq_false q]
    exact decide_eq_false fun z => q (S_inj (V.str.inj z))
theorem ok_opd {f : Addr} {fd : FuncData} (F : Fun K "read_operand" "read_operand" s_read_operand f fd) (U : UnTxt K mg CU) (C : TupTab K w mg "KINDS" kinds)
    (L : Df P w K mg base (L2N.CX P w) 2 "label_of" ["sign"] (spLabelOf CU)) (N : Df P w K mg base (L2N.CX P w) 3 "value_of" ["sign"] (spValue CU)) : FnOk P w K mg base (L2N.CX P w) 4 f fd ["sign", "form"] (spOpd CU) := by
  obtain ⟨fL, fdL, mL, kL, bL, FL⟩ := L
  obtain ⟨fN, fdN, mN, kN, bN, FN⟩ := N
  obtain ⟨dC, mC, TC⟩ := C
  have hR : ∀ (b : List Bytes) (u : Value), KTup K (b.map fun b => V.str (S b)) u → ∃ v, L2.RelV v u := fun b u r => by
    obtain ⟨a, e, _⟩ := r
    exact ⟨.ref a, e⟩
  refine okN F sc_opd (fun vs H Q E h => ?_) (fun cdv A outer s H vs Q E hr h => ?_)
  · obtain ⟨s, f, rfl, _⟩ := h
    rfl
  · have hr2 : Room 2 _ := hr.mono (by decide)
    refine ⟨_, pss_cons (ps_set (i := 2) sc_opd.nd rfl (Or.inl rfl) (pe_ifExp (pt_cmpR op_eq (pv 1) pe_str (nomark _))
          (pe_callS FL hr2 (by rfl) mL kL bL (fun σ => L2N.passAt (L2N.takes_of rfl rfl rfl rfl) σ) (pa_cons (pv 0) pa_nil))
          (pe_callS FN hr (by rfl) mN kN bN (fun σ => L2N.passAt (L2N.takes_of rfl rfl rfl rfl) σ) (pa_cons (pv 0) pa_nil))))
      (pss_cons (ps_if (pt_cmpR op_notIn_seq (pe_ix ix_tup (pv 2) pe_int (fun _ _ => rfl)) (pe_ix (ix_tab TC hR) (pe_glob (v := .ref dC) (by rfl) mC rfl) (pv 1) (fun _ _ => rfl)) (by rfl))
        (pss_one (L2N.ps_raise rfl (L2N.takes_of rfl rfl rfl rfl) (pmk_bare PySem.F.excBase_Exception U.xF U.gF U.kF (raises_own U.bF U.tF) (by rfl)))) pss_nil)
      (pss_cons (ps_if (PW.pt (pw_and (pt_cmpR op_eq (pv 1) pe_str (nomark _)) (pw_and1 (pt_cmpR op_lt (pe_ix ix_tup (pv 2) pe_int (fun _ _ => rfl)) pe_int (nomark _)))))
        (pss_one (L2N.ps_raise rfl (L2N.takes_of rfl rfl rfl rfl) (pmk_bare PySem.F.excBase_Exception U.xF U.gF U.kF (raises_own U.bF U.tF) (by rfl)))) pss_nil)
      (pss_one (ps_ret (pv 2))))), ?_⟩
    obtain ⟨sn, fm, rfl, hp, hk, kF, kS⟩ := h
    obtain ⟨ks, hks⟩ := Option.isSome_iff_exists.mp hk
    have hlk := lookup_S (fun ks : List Bytes => ks) fm kinds
    rw [hks] at hlk
    have hlk : (kinds.map fun p => (S p.1, p.2)).lookup (S fm) = some ks := hlk
    have hin : ∀ k, kindIn fm k = ks.contains k := fun k => by unfold kindIn; rw [hks]; rfl
    -- behind the operand: its tuple at p
    refine ⟨_, rfl, rfl, _, rfl, ?_⟩
    rw [S_txt "label", str_eq]
    unfold readOp at kF kS
    refine ite2 (fun c => ?_) (fun c => ?_)
    · have c := of_decide_eq_true c
      rw [if_pos c] at kF kS
      refine ⟨_, rfl, sn, rfl, hp, fun z => ?_, fun wd hw p np => ?_⟩
      · cases sn with
        | word wd => cases z
        | _ => exact kF rfl H (Same.refl H)
      · subst hw
        refine ⟨_, rfl, p, _, _, _, rfl, rfl, .inl (.inl upd_same), rfl, _, rfl, _, ks, rfl, rfl, hlk, fun v u r1 r2 => ?_⟩
        obtain ⟨a, rfl, ra⟩ := r1.sq (upd H p (.tup [.str (S (Sf47.txt "label")), .str (S wd)]))
        cases (relV_inj (a := .ref a) rfl r2)
        refine ⟨a, _, rfl, .inr ra, rfl, flat_strs ks, _, rfl, ?_⟩
        have hc : ks.contains (Sf47.txt "label") = true := by
          rw [← hin, c]
          decide +kernel
        show (if (!inV (V.str (S (Sf47.txt "label"))) (ks.map fun b => V.str (S b))) = true then _ else _)
        rw [in_strs, hc]
        refine iteF ?_
        refine ⟨_, rfl, rfl, _, rfl, ?_⟩
        rw [S_txt "duration", str_eq]
        refine if_f (decide_eq_false (by rw [c]; decide +kernel)) (iteF ⟨_, rfl, kS _ rfl p np⟩)
    · have c : ¬ fm = Sf47.txt "label" := fun z => c (decide_eq_true z)
      rw [if_neg c] at kF kS
      refine ⟨_, rfl, sn, rfl, hp, fun z => ?_, fun k z hz p np => ?_⟩
      · rw [z] at kF
        exact kF rfl H (Same.refl H)
      · rw [hz, Option.bind_some] at kF kS
        refine ⟨_, rfl, p, _, _, _, rfl, rfl, .inl (.inl upd_same), rfl, _, rfl, _, ks, rfl, rfl, hlk, fun v u r1 r2 => ?_⟩
        obtain ⟨a, rfl, ra⟩ := r1.sq (upd H p (.tup [.str (S k), .int z]))
        cases (relV_inj (a := .ref a) rfl r2)
        refine ⟨a, _, rfl, .inr ra, rfl, flat_strs ks, _, rfl, ?_⟩
        show (if (!inV (V.str (S k)) (ks.map fun b => V.str (S b))) = true then _ else _)
        rw [in_strs, ← hin]
        by_cases ki : kindIn fm k = true
        · rw [ki]
          dsimp only at kF kS
          rw [if_pos ki] at kF kS
          refine iteF ?_
          refine ⟨_, rfl, rfl, _, rfl, ?_⟩
          rw [S_txt "duration", str_eq]
          by_cases fd : fm = Sf47.txt "duration"
          · refine if_t (decide_eq_true fd) ?_
            refine ⟨_, rfl, p, _, _, _, rfl, rfl, .inl (.inl upd_same), rfl, _, _, rfl, rfl, _, rfl, ?_⟩
            refine ite2 (fun c2 => kF (if_pos ⟨fd, of_decide_eq_true c2⟩) _ (same_upd (Same.refl H) np)) (fun c2 => ?_)
            exact ⟨_, rfl, kS _ (if_neg fun q => c2 (decide_eq_true q.2)) p np⟩
          · exact if_f (decide_eq_false fd) (iteF ⟨_, rfl, kS _ (if_neg fun q => fd q.1) p np⟩)
        · rw [Bool.eq_false_iff.mpr ki]
          dsimp only at kF
          rw [if_neg ki] at kF
          exact iteT (kF rfl _ (same_upd (Same.refl H) np))
/-! ### read_label -/
def spLabel (CU : Addr) : Sp := fun vs H Q E => ∃ s : Sf47.Sign, vs = [sv s] ∧ Proper s ∧ ((∀ w, s = .word w → Sf47.taken w = true) → ∀ H', Same H H' → E (.ref CU) none H') ∧ (∀ w, s = .word w → Sf47.taken w = false → ∀ H', Same H H' → Q (.str (S w)) H')
theorem sc_rlb : FnScope ["sign"] ["sign"] (defScope s_read_label) := ⟨rfl, rfl, rfl, by decide +kernel, rfl, by decide +kernel, by decide +kernel⟩
theorem taken_is (w : Bytes) : Sf47.taken w = (nameKV w).isSome := by
  rw [name_is, Option.isSome_map]
  rfl
theorem ok_label {f : Addr} {fd : FuncData} (F : Fun K "read_label" "read_label" s_read_label f fd) (U : UnTxt K mg CU) (W : Df P w K mg base CX0 1 "is_word" ["sign"] spIsWord) (N : Df P w K mg base CX0 2 "named_value" ["word"] spNamed) : FnOk P w K mg base (L2N.CX P w) 3 f fd ["sign"] (spLabel CU) := by
  obtain ⟨fW, fdW, mW, kW, bW, FW⟩ := W
  obtain ⟨fN, fdN, mN, kN, bN, FN⟩ := N
  refine okN F sc_rlb (fun vs H Q E h => ?_) (fun cdv A outer s H vs Q E hr h => ?_)
  · obtain ⟨s, rfl, _⟩ := h
    rfl
  · have hr2 : Room 1 _ := hr.mono (by decide)
    refine ⟨_, pss_cons (ps_if (PW.pt (pw_or (pt_not (pt_val (pe_call FW hr2 (by rfl) mW kW bW .nil pass0 (pa_cons (pv 0) pa_nil)))) (pw_or1 (pt_cmpR op_notN (pe_call FN hr (by rfl) mN kN bN .nil pass0 (pa_cons (pv 0) pa_nil)) pe_non (nomark _)))))
        (pss_one (L2N.ps_raise rfl (L2N.takes_of rfl rfl rfl rfl) (pmk_bare PySem.F.excBase_Exception U.xF U.gF U.kF (raises_own U.bF U.tF) (by rfl)))) pss_nil)
      (pss_one (ps_ret (pv 0))), ?_⟩
    obtain ⟨sn, rfl, hp, kF, kS⟩ := h
    refine ⟨_, rfl, sn, rfl, hp, _, rfl, ?_⟩
    cases sn with
    | word wd =>
      refine iteF ?_
      obtain ⟨c, r, rfl, hb, hi, hl⟩ := id hp
      refine ⟨_, rfl, c, r, rfl, Nat.le_trans hl (by decide), hi, fun z => ?_, fun k z hk p np => ?_⟩
      · refine ⟨rfl, _, rfl, iteF ⟨_, rfl, kS _ rfl ?_ H (Same.refl H)⟩⟩
        rw [taken_is, z]
        rfl
      · refine ⟨rfl, _, rfl, if_t ?_ (kF (fun w hw => ?_) _ (same_upd (Same.refl H) np))⟩
        · rw [decide_eq_false (by intro z; cases z)]
          rfl
        · cases hw
          rw [taken_is, hk]
          rfl
    | _ => exact iteT (iteT (kF (fun w hw => by cases hw) H (Same.refl H)))
end
end Sl
set_option Elab.async false
set_option linter.all false
set_option maxRecDepth 100000
set_option maxHeartbeats 4000000
namespace Sl
open PySem PySem.Spec PyProof.Rows L2 SlM
theorem ops_append : ∀ (s1 : List Sf47.Sign) (f1 : List Bytes) (s2 : List Sf47.Sign) (f2 : List Bytes), s1.length = f1.length → readOps (s1 ++ s2) (f1 ++ f2) = (readOps s1 f1).bind fun l => (readOps s2 f2).map fun m => l ++ m
  | [], [], s2, f2, _ => by
    show readOps s2 f2 = (readOps s2 f2).map _
    cases readOps s2 f2 <;> rfl
  | [], _ :: _, _, _, h => by simp at h
  | _ :: _, [], _, _, h => by simp at h
  | s :: s1, f :: f1, s2, f2, h => by
    show (readOp s f).bind (fun o => (readOps (s1 ++ s2) (f1 ++ f2)).map fun l => o :: l) = ((readOp s f).bind fun o => (readOps s1 f1).map fun l => o :: l).bind _
    rw [ops_append s1 f1 s2 f2 (by simpa using h)]
    cases readOp s f with
    | none => rfl
    | some o =>
      cases readOps s1 f1 with
      | none => rfl
      | some l => cases readOps s2 f2 <;> rfl
theorem ops_at {ss : List Sf47.Sign} {fs : List Bytes} {i : Nat} {s : Sf47.Sign} {f : Bytes} (hl : ss.length = fs.length) (hs : ss[i]? = some s) (hf : fs[i]? = some f) :
    readOps (ss.take (i + 1)) (fs.take (i + 1)) = ((readOps (ss.take i) (fs.take i)).bind fun l => (readOp s f).map fun o => l ++ [o]) := by
  rw [List.take_succ, List.take_succ, hs, hf]
  show readOps (ss.take i ++ [s]) (fs.take i ++ [f]) = _
  rw [ops_append _ _ _ _ (by rw [List.length_take, List.length_take, hl]), ops_one]
  cases readOps (ss.take i) (fs.take i) with
  | none => rfl
  | some l => cases readOp s f <;> rfl
theorem ops_part {ss : List Sf47.Sign} {fs : List Bytes} (i : Nat) (hl : ss.length = fs.length) (h : readOps (ss.take i) (fs.take i) = none) : readOps ss fs = none := by
  rw [← List.take_append_drop i ss, ← List.take_append_drop i fs, ops_append _ _ _ _ (by rw [List.length_take, List.length_take, hl]), h]
  rfl
def OpsAt (H : Hp) (p : Addr) (os : List Opd) : Prop := ∃ rs : List Addr, H p = some (.lst (rs.map V.ref)) ∧ Paired (fun r o => H r = some (.tup (opdV o))) rs os
theorem paired_snoc {α β : Type} {R : α → β → Prop} {a : α} {b : β} (h : R a b) : ∀ {l : List α} {m : List β}, Paired R l m → Paired R (l ++ [a]) (m ++ [b])
  | _, _, .nil => .cons h .nil
  | _, _, .cons r t => .cons r (paired_snoc h t)
theorem walk_zipM {K : PySem.W.Frag} {a b : Addr} {xs ys : List V} (hl : xs.length = ys.length) : Walk (ItzM K a b) xs.length (fun H => SqL K H a xs ∧ SqT K H b ys) (YPair (fun i => xs[i]?) (fun i => ys[i]?)) := by
  refine ⟨fun i _ hi q => ?_, fun _ q => ⟨xs, ys, q.1, q.2, rfl, hl⟩, fun _ _ _ _ _ q ⟨T, x, z, new, free, is, atx, aty⟩ => ⟨T, x, z, new, free, is, atx xs q.1, aty ys q.2⟩⟩
  have hi2 : i < ys.length := hl ▸ hi
  exact ⟨xs, ys, xs[i], ys[i], q.1, q.2, List.getElem?_eq_getElem hi, List.getElem?_eq_getElem hi2⟩
theorem same_tup {K : PySem.W.Frag} {H H' : Hp} {a : Addr} {xs : List V} (e : Same H H') (h : SqT K H a xs) : SqT K H' a xs := h.imp_left (Or.imp (e _ _) (Exists.imp fun _ => e _ _))
section
variable {P : Program} {w : World} {K : PySem.W.Frag} {mg : Str → Option Value} {base : Heap} {CU : Addr}
def spOps (K : PySem.W.Frag) (CU : Addr) : Sp := fun vs H Q E => ∃ (a b : Addr) (ss : List Sf47.Sign) (fs : List Bytes), vs = [.ref a, .ref b] ∧ SqL K H a (ss.map sv) ∧ SqT K H b (fs.map fun f => V.str (S f)) ∧ (∀ s ∈ ss, Proper s) ∧ (∀ f ∈ fs, (kinds.lookup f).isSome = true) ∧ fs.length ≤ 1000 ∧
  (readOps ss fs = none → ∀ H', Same H H' → E (.ref CU) none H') ∧ (∀ os, readOps ss fs = some os → ∀ H' p, Same H H' → H p = none → OpsAt H' p os → Q (.ref p) H')
theorem sc_ops : FnScope ["signs", "forms", "sign", "form"] ["signs", "forms"] (defScope s_read_operands) := ⟨rfl, rfl, rfl, by decide +kernel, rfl, by decide +kernel, by decide +kernel⟩
theorem ok_ops {f : Addr} {fd : FuncData} (F : Fun K "read_operands" "read_operands" s_read_operands f fd) (U : UnTxt K mg CU) (hl : mg "len" = none) (hz : mg "zip" = none)
    (O : Df P w K mg base (L2N.CX P w) 4 "read_operand" ["sign", "form"] (spOpd CU)) : FnOk P w K mg base (L2N.CX P w) 5 f fd ["signs", "forms"] (spOps K CU) := by
  obtain ⟨fO, fdO, mO, kO, bO, FO⟩ := O
  refine okN F sc_ops (fun vs H Q E h => ?_) (fun cdv A outer s H vs Q E hr h => ?_)
  · obtain ⟨a, b, ss, fs, rfl, _⟩ := h
    rfl
  · refine ⟨_, pss_cons (ps_if (pt_cmpR op_ne (pe_callB call_len_seq (by rfl) hl PySem.boot_len (pa_cons (pv 0) pa_nil)) (pe_callB call_len_seq (by rfl) hl PySem.boot_len (pa_cons (pv 1) pa_nil)) (nomark _))
        (pss_one (L2N.ps_raise rfl (L2N.takes_of rfl rfl rfl rfl) (pmk_bare PySem.F.excBase_Exception U.xF U.gF U.kF (raises_own U.bF U.tF) (by rfl)))) pss_nil)
      (pss_one (ps_ret (pe_lcX (WB := E) (own := [("sign", 2), ("form", 3)]) (g := gTup K 2 (gCons (gName 2) (gCons (gName 3) gNil))) (tt := tYes) rfl rfl rfl (L2N.takes_of rfl rfl rfl rfl) sc_ops.nd
        (pi_zipM (by rfl) hz (pa_cons (pv 0) (pa_cons (pv 1) pa_nil))) (blkOk_by (own := [("sign", 2), ("form", 3)]) (N := ["signs", "forms", "sign", "form"]) (sc := defScope s_read_operands) (by decide +kernel))
        (fun _ _ _ _ _ => pg_tup rfl (pgs_cons (pg_name (i := 2) sc_ops.nd rfl (Or.inl rfl)) (pgs_cons (pg_name (i := 3) sc_ops.nd rfl (Or.inl rfl)) pgs_nil)))
        (fun _ _ _ _ _ => pts_nil) (fun _ _ _ _ _ => pe_callS (E := fun _ => E) FO hr (by rfl) mO kO bO (fun σ => pass_blk σ) (pa_cons (pv 2) (pa_cons (pv 3) pa_nil)))))), ?_⟩
    obtain ⟨a, b, ss, fs, rfl, hS, hT, hp, hk, hlen, kF, kS⟩ := h
    refine ⟨_, rfl, a, _, rfl, .inl hS, _, rfl, b, _, rfl, .inr hT, rfl, _, rfl, ?_⟩
    rw [int_eq, List.length_map, List.length_map]
    by_cases c : ss.length = fs.length
    · refine if_f (by rw [decide_eq_true (by omega)]; rfl) ?_
      refine ⟨_, rfl, _, rfl, a, b, _, _, rfl, hS, hT, fun D nD => ?_⟩
      refine lc_it (walk_zipM (xs := ss.map sv) (ys := fs.map fun f => V.str (S f)) (by rw [List.length_map, List.length_map]; exact c)) (fun i H' => ∃ rs os, H' D = some (.lst (rs.map V.ref)) ∧ Paired (fun r o => H' r = some (.tup (opdV o))) rs os ∧ readOps (ss.take i) (fs.take i) = some os ∧ Same H H' ∧ rs.length ≤ i)
        ⟨[], [], upd_same, .nil, rfl, same_upd (Same.refl H) nD, Nat.le_refl _⟩ (fun i H' _ h => ?_) ?_ ?_
      · obtain ⟨rs, os, _, _, _, sm, _⟩ := h
        exact ⟨sm.seq hS, same_tup sm hT⟩
      · rintro i x H1 H2 hi ⟨rs, os, h1, h2, h3, h4, h5⟩ ⟨T, x1, x2, rfl, nT, rfl, e1, e2⟩
        dsimp only at e1 e2
        rw [List.getElem?_map] at e1 e2
        obtain ⟨sn, hsn, rfl⟩ := Option.map_eq_some_iff.mp e1
        obtain ⟨fm, hfm, rfl⟩ := Option.map_eq_some_iff.mp e2
        have neT : D ≠ T := fun z => by rw [z, nT] at h1; cases h1
        have sT : Same H1 (upd H1 T (.tup [sv sn, .str (S fm)])) := same_upd (Same.refl H1) nT
        refine ⟨T, _, rfl, .inl (.inl upd_same), rfl, _, _, rfl, _, _, rfl, rfl, ?_⟩
        refine ⟨rfl, ?_⟩
        dsimp only [tYes]
        rw [if_pos rfl]
        have st := ops_at c hsn hfm
        rw [h3, Option.bind_some] at st
        refine ⟨_, rfl, _, rfl, sn, fm, rfl, hp sn (List.mem_of_getElem? hsn), hk fm (List.mem_of_getElem? hfm), fun z H3 s3 => ?_, fun o ho p np => ?_⟩
        · rw [z] at st
          exact kF (ops_part (i + 1) c st) H3 (h4.trans (sT.trans s3))
        · rw [ho] at st
          have npH1 : H1 p = none := sT.free np
          have neP : D ≠ p := fun z => by rw [← z, h1] at npH1; cases npH1
          refine ⟨_, by rw [upd_ne neP, upd_ne neT]; exact h1, by rw [List.length_map]; exact Nat.lt_of_le_of_lt h5 (Nat.lt_of_lt_of_le hi (by rw [List.length_map, c]; exact Nat.le_trans hlen (by decide))), ?_⟩
          have nD1 : ∀ r o, H1 r = some (.tup (opdV o)) → r ≠ D := fun r o e z => by rw [z, h1] at e; cases e
          have sp : Same H1 (upd (upd H1 T (.tup [sv sn, .str (S fm)])) p (.tup (opdV o))) := same_upd sT npH1
          refine ⟨rs ++ [p], os ++ [o], ?_, ?_, st, fun x ob e => ?_, by rw [List.length_append, List.length_singleton]; omega⟩
          · rw [upd_same, List.map_append]
            rfl
          · refine paired_snoc ?_ (Paired.mapP h2 fun r o e => ?_)
            · rw [upd_ne (Ne.symm neP), upd_same]
            · rw [upd_ne (nD1 r o e)]
              exact sp _ _ e
          · have hx : x ≠ D := ne_of_none e nD
            rw [upd_ne hx]
            exact sp _ _ (h4 x ob e)
      · rintro H1 ⟨rs, os, h1, h2, h3, h4, h5⟩
        rw [List.length_map] at h3
        rw [List.take_length, c, List.take_length] at h3
        exact kS os h3 H1 D h4 nD ⟨rs, h1, h2⟩
    · refine if_t (by rw [decide_eq_false (by omega)]; rfl) (kF (ops_len c) H (Same.refl H))
/-! ### read_put_off -/
def putOps (n : Bytes) (ss : List Sf47.Sign) : Option (List Opd) := if putOff.contains n = true then readOps ss [Sf47.txt "any"] else none
def spPut (K : PySem.W.Frag) (CU : Addr) : Sp := fun vs H Q E => ∃ (n : Bytes) (a : Addr) (ss : List Sf47.Sign), vs = [.str (S n), .ref a] ∧ SqL K H a (ss.map sv) ∧ (∀ s ∈ ss, Proper s) ∧
  (putOps n ss = none → ∀ H', Same H H' → E (.ref CU) none H') ∧ (∀ os, putOps n ss = some os → ∀ H' p, Same H H' → H p = none → OpsAt H' p os → Q (.ref p) H')
theorem sc_put : FnScope ["name", "signs"] ["name", "signs"] (defScope s_read_put_off) := ⟨rfl, rfl, rfl, by decide +kernel, rfl, by decide +kernel, by decide +kernel⟩
theorem ok_put {f : Addr} {fd : FuncData} (F : Fun K "read_put_off" "read_put_off" s_read_put_off f fd) (U : UnTxt K mg CU) (C : TupC K mg "MAY_BE_PUT_OFF" putOff)
    (O : Df P w K mg base (L2N.CX P w) 5 "read_operands" ["signs", "forms"] (spOps K CU)) : FnOk P w K mg base (L2N.CX P w) 6 f fd ["name", "signs"] (spPut K CU) := by
  obtain ⟨fO, fdO, mO, kO, bO, FO⟩ := O
  obtain ⟨uC, mC, tC⟩ := C
  obtain ⟨aC, rfl, qC⟩ := id tC
  refine okN F sc_put (fun vs H Q E h => ?_) (fun cdv A outer s H vs Q E hr h => ?_)
  · obtain ⟨n, a, ss, rfl, _⟩ := h
    rfl
  · refine ⟨_, pss_cons (ps_if (pt_cmpR op_notIn_seq (pv 0) (pe_glob (v := .ref aC) (by rfl) mC rfl) (by rfl))
        (pss_one (L2N.ps_raise rfl (L2N.takes_of rfl rfl rfl rfl) (pmk_bare PySem.F.excBase_Exception U.xF U.gF U.kF (raises_own U.bF U.tF) (by rfl)))) pss_nil)
      (pss_one (ps_ret (pe_callS FO hr (by rfl) mO kO bO (fun σ => L2N.passAt (L2N.takes_of rfl rfl rfl rfl) σ) (pa_cons (pv 1) (pa_cons (pe_tup (pa_cons pe_str pa_nil)) pa_nil))))), ?_⟩
    obtain ⟨n, a, ss, rfl, hS, hp, kF, kS⟩ := h
    unfold putOps at kF kS
    refine ⟨_, rfl, aC, _, rfl, .inr (.inr qC), rfl, flat_strs _, _, rfl, ?_⟩
    show (if (!inV (V.str (S n)) (putOff.map fun b => V.str (S b))) = true then _ else _)
    rw [in_strs]
    by_cases c : putOff.contains n = true
    · rw [if_pos c] at kF kS
      rw [c]
      refine iteF ⟨_, rfl, by show 1 ≤ sizeLine; decide, fun p np => ?_⟩
      have sm := same_upd (o := .tup [V.str (Str.ofString "any")]) (Same.refl H) np
      refine ⟨a, p, ss, [Sf47.txt "any"], rfl, sm.seq hS, .inl (.inl ?_), hp, fun f hf => ?_, by decide, fun z H' s' => kF z H' (sm.trans s'), fun os ho H' q s' nq oq => kS os ho H' q (sm.trans s') (sm.free nq) oq⟩
      · rw [upd_same, S_txt "any"]
        rfl
      · rw [List.mem_singleton.mp hf]
        decide +kernel
    · rw [if_neg c] at kF
      rw [Bool.eq_false_iff.mpr c]
      exact iteT (kF rfl H (Same.refl H))
end
end Sl
set_option Elab.async false
set_option linter.all false
set_option maxRecDepth 100000
set_option maxHeartbeats 4000000
namespace Sl
open PySem PySem.Spec PyProof.Rows L2 SlM
/-! ### a Line in the heap -/
def lnF (l n o q : V) : List (Str × V) := [("label", l), ("name", n), ("opens", o), ("operands", q)]
def labV : Option Bytes → V
  | none => .non
  | some w => .str (S w)
def nameV : Option Sf47.Insn → V
  | none => .non
  | some i => .str (S (insKV i).1)
def opensV : Option Sf47.Insn → Bool
  | none => false
  | some i => (insKV i).2.1
def opsV : Option Sf47.Insn → List Opd
  | none => []
  | some i => (insKV i).2.2
def LineAt (CL : Addr) (H : Hp) (r : Addr) (pl : PLine) : Prop := ∃ dx p, H r = some (.ins CL dx (lnF (labV pl.1) (nameV pl.2) (.bl (opensV pl.2)) (.ref p))) ∧ OpsAt H p (opsV pl.2)
/-- a Line whose list of operands was not there before -/
def LineNew (CL : Addr) (H0 H : Hp) (r : Addr) (pl : PLine) : Prop := ∃ dx p, H r = some (.ins CL dx (lnF (labV pl.1) (nameV pl.2) (.bl (opensV pl.2)) (.ref p))) ∧ OpsAt H p (opsV pl.2) ∧ H0 p = none
theorem LineNew.here {CL : Addr} {H0 H : Hp} {r : Addr} {pl : PLine} (h : LineNew CL H0 H r pl) : LineAt CL H r pl := by
  obtain ⟨dx, p, h1, h2, _⟩ := h
  exact ⟨dx, p, h1, h2⟩
theorem LineNew.back {CL : Addr} {H H0 H1 : Hp} {r : Addr} {pl : PLine} (s : Same H H0) (h : LineNew CL H0 H1 r pl) : LineNew CL H H1 r pl := by
  obtain ⟨dx, p, h1, h2, h3⟩ := h
  exact ⟨dx, p, h1, h2, s.free h3⟩
/-- what the text says of Line -/
structure LnTxt (K : PySem.W.Frag) (mg : Str → Option Value) (CL fI : Addr) (fdI : FuncData) : Prop where
  gC : mg "Line" = some (.ref CL)
  cl : Cls K CL
  nL : NoAttr K CL "label"
  nN : NoAttr K CL "name"
  nO : NoAttr K CL "opens"
  nP : NoAttr K CL "operands"
  mkC : Mk K CL fI
  fi : Fun K "__init__" "Line.__init__" s_line_init fI fdI
theorem putF_here {f : Str} {v x : V} {r : List (Str × V)} : putF f v ((f, x) :: r) = (f, v) :: r := if_pos rfl
theorem putF_past {f g : Str} {v x : V} {r : List (Str × V)} (h : ¬ g = f) : putF f v ((g, x) :: r) = (g, x) :: putF f v r := if_neg h
theorem lnF_new (l n o q : V) : putF "operands" q (putF "opens" o (putF "name" n (putF "label" l []))) = lnF l n o q := by
  show putF "operands" q (putF "opens" o (putF "name" n [("label", l)])) = _
  rw [putF_past (by decide +kernel)]
  show putF "operands" q (putF "opens" o [("label", l), ("name", n)]) = _
  rw [putF_past (by decide +kernel), putF_past (by decide +kernel)]
  show putF "operands" q [("label", l), ("name", n), ("opens", o)] = _
  rw [putF_past (by decide +kernel), putF_past (by decide +kernel), putF_past (by decide +kernel)]
  rfl
theorem look_here {k : Str} {v : V} {r : List (Str × V)} : List.lookup k ((k, v) :: r) = some v := by
  have e : (k == k) = true := beq_self_eq_true k
  simp only [List.lookup, e]
theorem look_past {k g : Str} {v : V} {r : List (Str × V)} (h : (k == g) = false) : List.lookup k ((g, v) :: r) = List.lookup k r := by
  simp only [List.lookup, h]
theorem lnF_label (l n o q : V) : (lnF l n o q).lookup ("label" : Str) = some l := look_here
theorem lnF_name (l n o q : V) : (lnF l n o q).lookup ("name" : Str) = some n := (look_past (by decide +kernel)).trans look_here
theorem lnF_opens (l n o q : V) : (lnF l n o q).lookup ("opens" : Str) = some o := (look_past (by decide +kernel)).trans ((look_past (by decide +kernel)).trans look_here)
theorem lnF_operands (l n o q : V) : (lnF l n o q).lookup ("operands" : Str) = some q := (look_past (by decide +kernel)).trans ((look_past (by decide +kernel)).trans ((look_past (by decide +kernel)).trans look_here))
theorem ops_same {H H' : Hp} {p : Addr} {os : List Opd} (s : Same H H') (h : OpsAt H p os) : OpsAt H' p os := by
  obtain ⟨rs, h1, h2⟩ := h
  exact ⟨rs, s _ _ h1, Paired.mapP h2 fun r o e => s _ _ e⟩
theorem line_same {CL : Addr} {H H' : Hp} {r : Addr} {pl : PLine} (s : Same H H') (h : LineAt CL H r pl) : LineAt CL H' r pl := by
  obtain ⟨dx, p, h1, h2⟩ := h
  exact ⟨dx, p, s _ _ h1, ops_same s h2⟩
theorem cut_drop (xs : List V) (k : Nat) : cutV xs (some (k : Int)) none = xs.drop k := by
  unfold cutV
  rw [HT.sIx_none, HT.sIx_nat]
  rcases Nat.le_total k xs.length with h | h
  · rw [Nat.min_eq_left h, List.take_of_length_le (by rw [List.length_drop]; exact Nat.le_refl _)]
  · rw [Nat.min_eq_right h, List.drop_length, List.drop_of_length_le h]
    simp
theorem sv_mark {s : Sf47.Sign} (hp : Proper s) {c : UInt8} (hc : Sf47.begins c = false) {m : Sf47.Sign} (hm : sv m = .str (S [c])) (hu : ∀ z, m ≠ .num z) (hi : ∀ s', sv s' = .str (S [c]) → (∀ w, s' ≠ .word w) → s' = m) : decide (sv s = .str (S [c])) = decide (s = m) := by
  by_cases e : s = m
  · rw [e, hm, decide_eq_true rfl, decide_eq_true rfl]
  · rw [decide_eq_false e]
    refine decide_eq_false fun z => e (hi s z fun w hw => ?_)
    subst hw
    obtain ⟨x, r, rfl, hb, _⟩ := hp
    have := (List.cons.inj (S_inj (V.str.inj z))).1
    rw [this, hc] at hb
    cases hb
theorem sv_open {s : Sf47.Sign} (hp : Proper s) : decide (sv s = .str (S [40])) = decide (s = .open_) := by
  refine sv_mark hp (by decide) rfl (fun z h => by cases h) fun s' h hw => ?_
  cases s' with
  | word w => exact absurd rfl (hw w)
  | num z => cases h
  | colon => exact absurd (S_inj (V.str.inj h)) (by decide)
  | open_ => rfl
  | close => exact absurd (S_inj (V.str.inj h)) (by decide)
theorem sv_colon {s : Sf47.Sign} (hp : Proper s) : decide (sv s = .str (S [58])) = decide (s = .colon) := by
  refine sv_mark hp (by decide) rfl (fun z h => by cases h) fun s' h hw => ?_
  cases s' with
  | word w => exact absurd rfl (hw w)
  | num z => cases h
  | colon => rfl
  | open_ => exact absurd (S_inj (V.str.inj h)) (by decide)
  | close => exact absurd (S_inj (V.str.inj h)) (by decide)
theorem sv_text {s : Sf47.Sign} {n : Bytes} (h : textOf s = some n) : sv s = .str (S n) := by
  cases s <;> first | (cases h; done) | (cases h; rfl)
theorem sv_scal (s : Sf47.Sign) (n : Str) : scal (sv s) (.str n) = true := by cases s <;> rfl
theorem form_all {n : Bytes} {fs : List Bytes} (h : forms.lookup n = some fs) : (fs.all (fun f => (kinds.lookup f).isSome) && decide (fs.length ≤ 1000)) = true := by
  have key : ∀ l : List (Bytes × List Bytes), (l.all fun p => p.2.all (fun f => (kinds.lookup f).isSome) && decide (p.2.length ≤ 1000)) = true → l.lookup n = some fs → (fs.all (fun f => (kinds.lookup f).isSome) && decide (fs.length ≤ 1000)) = true := by
    intro l
    induction l with
    | nil => intro _ h; cases h
    | cons p r ih =>
      intro ha h
      rw [List.all_cons, Bool.and_eq_true] at ha
      rw [List.lookup_cons] at h
      cases c : (n == p.1) with
      | true =>
        rw [c] at h
        cases h
        exact ha.1
      | false =>
        rw [c] at h
        exact ih ha.2 h
  exact key forms (by decide +kernel) h
theorem form_kinds {n : Bytes} {fs : List Bytes} (h : forms.lookup n = some fs) : ∀ f ∈ fs, (kinds.lookup f).isSome = true := fun f hf => List.all_eq_true.mp (Bool.and_eq_true_iff.mp (form_all h)).1 f hf
theorem form_len {n : Bytes} {fs : List Bytes} (h : forms.lookup n = some fs) : fs.length ≤ 1000 := of_decide_eq_true (Bool.and_eq_true_iff.mp (form_all h)).2
theorem ins_plainG {s : Sf47.Sign} {n : Bytes} {fs : List Bytes} {t : List Sf47.Sign} (ht : textOf s = some n) (h : forms.lookup n = some fs) (hno : ∀ t', t ≠ .open_ :: t') : readIns (s :: t) = (readOps t fs).map fun l => (n, false, l) := by
  simp only [readIns, ht, h, Option.bind_some]
theorem ins_openG {s : Sf47.Sign} {n : Bytes} {fs : List Bytes} {t : List Sf47.Sign} (ht : textOf s = some n) (h : forms.lookup n = some fs) : readIns (s :: .open_ :: t) = (putOps n t).map fun l => (n, true, l) := by
  simp only [readIns, ht, h, Option.bind_some]
  unfold putOps
  split <;> rfl
section
variable {P : Program} {w : World} {K : PySem.W.Frag} {mg : Str → Option Value} {base : Heap} {CU CL fI : Addr} {fdI : FuncData}
def spInit (CL : Addr) : Sp := fun vs H Q _ => ∃ (p dx : Addr) (l n o q : V), vs = [.ref p, l, n, o, q] ∧ H p = some (.ins CL dx []) ∧ ∀ H' : Hp, H' p = some (.ins CL dx (lnF l n o q)) → (∀ b ob, H b = some ob → b ≠ p → H' b = some ob) → Q .non H'
theorem sc_ini : FnScope ["self", "label", "name", "opens", "operands"] ["self", "label", "name", "opens", "operands"] (defScope s_line_init) := ⟨rfl, rfl, rfl, by decide +kernel, rfl, by decide +kernel, by decide +kernel⟩
theorem ok_init (T : LnTxt K mg CL fI fdI) : FnOk P w K mg base CX0 1 fI fdI ["self", "label", "name", "opens", "operands"] (spInit CL) := by
  refine T.fi.ok sc_ini (fun vs H Q E h => ?_) (fun cdv A outer s H vs Q E hr h => ?_)
  · obtain ⟨p, dx, l, n, o, q, rfl, _⟩ := h
    rfl
  · refine ⟨_, pss_cons (ps_fld (pv 0) (pv 1) rfl) (pss_cons (ps_fld (pv 0) (pv 2) rfl) (pss_cons (ps_fld (pv 0) (pv 3) rfl) (pss_one (ps_fld (pv 0) (pv 4) rfl)))), ?_⟩
    obtain ⟨p, dx, l, n, o, q, rfl, hp, k⟩ := h
    refine ⟨_, rfl, _, rfl, p, CL, dx, [], rfl, hp, T.cl, T.nL, (by show 0 < 1000; decide), ?_⟩
    refine ⟨_, rfl, _, rfl, p, CL, dx, _, rfl, upd_same, T.cl, T.nN, (by show 1 < 1000; decide), ?_⟩
    refine ⟨_, rfl, _, rfl, p, CL, dx, _, rfl, upd_same, T.cl, T.nO, (by show 2 < 1000; decide), ?_⟩
    refine ⟨_, rfl, _, rfl, p, CL, dx, _, rfl, upd_same, T.cl, T.nP, (by show 3 < 1000; decide), ?_⟩
    refine k _ (Eq.trans upd_same (congrArg (fun z => some (HO.ins CL dx z)) (lnF_new l n o q))) fun b ob e hb => ?_
    rw [upd_ne hb, upd_ne hb, upd_ne hb, upd_ne hb]
    exact e
theorem bind_init (T : LnTxt K mg CL fI fdI) : Binds K fdI ["self", "label", "name", "opens", "operands"] [] := T.fi.binds fun _ _ _ _ _ _ us hl => match us, hl with | [_, _, _, _, _], _ => rfl
/-! ### read_instruction -/
def spIns (K : PySem.W.Frag) (CU CL : Addr) : Sp := fun vs H Q E => ∃ (lab : Option Bytes) (a : Addr) (ss : List Sf47.Sign), vs = [labV lab, .ref a] ∧ SqL K H a (ss.map sv) ∧ (∀ s ∈ ss, Proper s) ∧
  (insOf ss = none → ∀ H', Same H H' → E (.ref CU) none H') ∧ (∀ i, insOf ss = some i → ∀ H' r, Same H H' → H r = none → LineNew CL H H' r (lab, i) → Q (.ref r) H')
theorem sc_ins : FnScope ["label", "signs", "name"] ["label", "signs"] (defScope s_read_instruction) := ⟨rfl, rfl, rfl, by decide +kernel, rfl, by decide +kernel, by decide +kernel⟩
theorem ok_ins {f : Addr} {fd : FuncData} (F : Fun K "read_instruction" "read_instruction" s_read_instruction f fd) (U : UnTxt K mg CU) (T : LnTxt K mg CL fI fdI) (hl : mg "len" = none) (C : TupTab K w mg "FORMS" forms)
    (O : Df P w K mg base (L2N.CX P w) 5 "read_operands" ["signs", "forms"] (spOps K CU)) (R : Df P w K mg base (L2N.CX P w) 6 "read_put_off" ["name", "signs"] (spPut K CU)) : FnOk P w K mg base (L2N.CX P w) 7 f fd ["label", "signs"] (spIns K CU CL) := by
  obtain ⟨fO, fdO, mO, kO, bO, FO⟩ := O
  obtain ⟨fR, fdR, mR, kR, bR, FR⟩ := R
  obtain ⟨dC, mC, TC⟩ := C
  have hR : ∀ (b : List Bytes) (u : Value), KTup K (b.map fun b => V.str (S b)) u → ∃ v, L2.RelV v u := fun b u r => by
    obtain ⟨a, e, _⟩ := r
    exact ⟨.ref a, e⟩
  have GI : FnOk P w K mg base CX0 1 fI fdI ["self", "label", "name", "opens", "operands"] (spInit CL) := ok_init T
  have bI := bind_init T
  refine okN F sc_ins (fun vs H Q E h => ?_) (fun cdv A outer s H vs Q E hr h => ?_)
  · obtain ⟨lab, a, ss, rfl, _⟩ := h
    rfl
  · have hr5 : Room 5 _ := hr.mono (by decide)
    have hr2 : Room 2 _ := hr.mono (by decide)
    refine ⟨_, pss_cons (ps_if (pt_cmpR op_eq (pe_callB call_len_seq (by rfl) hl PySem.boot_len (pa_cons (pv 1) pa_nil)) pe_int (nomark _))
        (pss_one (ps_ret (pe_make T.mkC GI hr2 rfl T.gC bI .nil pass0 (pa_cons (pv 0) (pa_cons pe_non (pa_cons pe_bl (pa_cons (pe_lst pa_nil) pa_nil))))))) pss_nil)
      (pss_cons (ps_set (i := 2) sc_ins.nd rfl (Or.inl rfl) (pe_ix ix_list (pv 1) pe_int (fun _ _ => rfl)))
      (pss_cons (ps_if (pt_cmpR (op_notIn_tab TC) (pv 2) (pe_glob (v := .ref dC) (by rfl) mC rfl) (by rfl))
        (pss_one (L2N.ps_raise rfl (L2N.takes_of rfl rfl rfl rfl) (pmk_bare PySem.F.excBase_Exception U.xF U.gF U.kF (raises_own U.bF U.tF) (by rfl)))) pss_nil)
      (pss_cons (ps_if (PW.pt (pw_and (pt_cmpR op_gt (pe_callB call_len_seq (by rfl) hl PySem.boot_len (pa_cons (pv 1) pa_nil)) pe_int (nomark _)) (pw_and1 (pt_cmpR op_eq (pe_ix ix_list (pv 1) pe_int (fun _ _ => rfl)) pe_str (nomark _)))))
        (pss_one (ps_ret (pe_make T.mkC GI hr2 rfl T.gC bI .nil pass0 (pa_cons (pv 0) (pa_cons (pv 2) (pa_cons pe_bl (pa_cons
          (pe_callS FR hr (by rfl) mR kR bR (fun σ => L2N.passAt (L2N.takes_of rfl rfl rfl rfl) σ) (pa_cons (pv 2) (pa_cons (pe_slice sl_list (pv 1) (po_some pe_int) po_none) pa_nil))) pa_nil))))))) pss_nil)
      (pss_one (ps_ret (pe_make T.mkC GI hr2 rfl T.gC bI .nil pass0 (pa_cons (pv 0) (pa_cons (pv 2) (pa_cons pe_bl (pa_cons
          (pe_callS FO hr5 (by rfl) mO kO bO (fun σ => L2N.passAt (L2N.takes_of rfl rfl rfl rfl) σ) (pa_cons (pe_slice sl_list (pv 1) (po_some pe_int) po_none) (pa_cons (pe_ix (ix_tab TC hR) (pe_glob (v := .ref dC) (by rfl) mC rfl) (pv 2) (fun _ _ => rfl)) pa_nil))) pa_nil)))))))))), ?_⟩
    obtain ⟨lab, a, ss, rfl, hS, hp, kF, kS⟩ := h
    -- a new Line
    have make : ∀ (H1 : Hp) (q : Addr) (i : Option Sf47.Insn), insOf ss = some i → Same H H1 → OpsAt H1 q (opsV i) → H q = none → ∀ x dx, H1 x = none → H1 dx = none → dx ≠ x →
        spInit CL [.ref x, labV lab, nameV i, .bl (opensV i), .ref q] (upd (upd H1 dx (.own x)) x (.ins CL dx [])) (fun v H2 => v = .non ∧ Q (.ref x) H2) E0 := by
      intro H1 q i hi s1 oq nq x dx nx ndx ne
      refine ⟨x, dx, _, _, _, _, rfl, upd_same, fun H2 e2 kp => ⟨rfl, ?_⟩⟩
      have sm : Same H1 H2 := Same.made nx ndx kp
      exact kS i hi H2 x (s1.trans sm) (s1.free nx) ⟨dx, q, e2, ops_same sm oq, nq⟩
    refine ⟨_, rfl, a, _, rfl, .inl hS, rfl, _, rfl, ?_⟩
    rw [int_eq, List.length_map]
    cases ss with
    | nil =>
      refine if_t (decide_eq_true rfl) ?_
      refine ⟨_, rfl, by show 0 ≤ sizeLine; decide, fun p np => ?_⟩
      exact make (upd H p (.lst [])) p none rfl (same_upd (Same.refl H) np) ⟨[], upd_same, .nil⟩ np
    | cons sn t =>
      refine if_f (decide_eq_false (by rw [List.length_cons]; omega)) ?_
      have hpw : ∀ w r, sn :: t = .word w :: r → w ≠ Sf47.txt ")" := fun w r e hw => by
        obtain ⟨rfl, rfl⟩ := List.cons.inj e
        obtain ⟨x, r', e1, hb, _⟩ := hp (.word w) List.mem_cons_self
        rw [hw] at e1
        have := (List.cons.inj e1).1
        rw [← this] at hb
        exact absurd hb (by decide)
      have hins := ins_is (sn :: t) hpw (by simp)
      have io : insOf (sn :: t) = (Sf47.insn (sn :: t)).map some := if_neg (by simp)
      have bad : readIns (sn :: t) = none → ∀ H', Same H H' → E (.ref CU) none H' := fun z => kF (by
        rw [z] at hins
        rw [io]
        cases q : Sf47.insn (sn :: t) with
        | none => rfl
        | some i => rw [q] at hins; cases hins)
      have good : ∀ n o os, readIns (sn :: t) = some (n, o, os) → ∃ i, insOf (sn :: t) = some (some i) ∧ nameV (some i) = .str (S n) ∧ opensV (some i) = o ∧ opsV (some i) = os := fun n o os z => by
        rw [z] at hins
        cases q : Sf47.insn (sn :: t) with
        | none => rw [q] at hins; cases hins
        | some i =>
          rw [q] at hins
          have e := Option.some.inj hins
          refine ⟨i, by rw [io, q]; rfl, ?_, ?_, ?_⟩
          · show V.str (S (insKV i).1) = _
            rw [← e]
          · show (insKV i).2.1 = _
            rw [← e]
          · show (insKV i).2.2 = _
            rw [← e]
      refine ⟨_, rfl, a, _, _, sv sn, rfl, rfl, hS, atI_nat (j := 0) rfl, ?_⟩
      cases ht : textOf sn with
      | none =>
        cases sn with
        | num z => exact ⟨_, rfl, rfl, .inr ⟨z, rfl, _, rfl, iteT (bad rfl H (Same.refl H))⟩⟩
        | _ => cases ht
      | some n =>
        have es := sv_text ht
        rw [es]
        refine ⟨_, rfl, rfl, .inl ⟨_, rfl, _, rfl, ?_⟩⟩
        have hlk := lookup_S (fun ks : List Bytes => ks) n forms
        rw [hlk, Bool.bne_true]
        cases hf : forms.lookup n with
        | none => exact iteT (bad (ins_no ht hf) H (Same.refl H))
        | some fs =>
          rw [hf] at hlk
          have hlk : (forms.map fun p => (S p.1, p.2)).lookup (S n) = some fs := hlk
          refine iteF ?_
          have hkf : ∀ f ∈ fs, (kinds.lookup f).isSome = true := form_kinds hf
          have hfl : fs.length ≤ 1000 := form_len hf
          -- without a parenthesis
          have plainIns : (∀ t', t ≠ .open_ :: t') → ∃ v, [some (labV lab), some (V.ref a), some (V.str (S n))][0]? = some (some v) ∧ ∃ v1, [some (labV lab), some (V.ref a), some (V.str (S n))][2]? = some (some v1) ∧
              ∃ v2, [some (labV lab), some (V.ref a), some (V.str (S n))][1]? = some (some v2) ∧ ∃ i, V.int 1 = .int i ∧ rSlL K v2 (some i) none H fun x H3 => ∃ v3, [some (labV lab), some (V.ref a), some (V.str (S n))][2]? = some (some v3) ∧
                rIxT dC (fun ks u => KTup K (ks.map fun b => V.str (S b)) u) (forms.map fun p => (S p.1, p.2)) (.ref dC) v3 H3 fun y H4 => spOps K CU [x, y] H4 (fun z H5 => ∀ x dx, H5 x = none → H5 dx = none → dx ≠ x →
                  spInit CL (.ref x :: ([v, v1, .bl false, z] ++ [])) (upd (upd H5 dx (.own x)) x (.ins CL dx [])) (fun v H2 => v = .non ∧ Q (.ref x) H2) E0) E := by
            intro hno
            refine ⟨_, rfl, _, rfl, _, rfl, _, rfl, a, _, rfl, hS, fun p np => ?_⟩
            have sm := same_upd (o := .lst (cutV ((sn :: t).map sv) (some 1) none)) (Same.refl H) np
            refine ⟨_, rfl, _, fs, rfl, rfl, hlk, fun v u r1 r2 => ?_⟩
            obtain ⟨b, rfl, rb⟩ := r1.sq (upd H p (.lst (cutV ((sn :: t).map sv) (some 1) none)))
            cases (relV_inj (a := .ref b) rfl r2)
            have er : readIns (sn :: t) = (readOps t fs).map fun l => (n, false, l) := ins_plainG ht hf hno
            refine ⟨p, b, t, fs, rfl, ?_, rb, fun s hs => hp s (List.mem_cons_of_mem _ hs), hkf, hfl, fun z H' s' => ?_, fun os ho H' q s' nq oq => ?_⟩
            · refine SqL.of ?_
              rw [upd_same, show (some (1 : Int)) = some ((1 : Nat) : Int) from rfl, cut_drop]
              rfl
            · rw [z] at er
              exact bad er H' (sm.trans s')
            · rw [ho] at er
              obtain ⟨i, hi, e1, e2, e3⟩ := good n false os er
              have mk := make H' q i hi (sm.trans s')
              rw [e1, e2, e3] at mk
              exact mk oq (sm.free nq)
          refine ⟨_, rfl, a, _, rfl, .inl hS, _, _, rfl, rfl, _, rfl, ?_⟩
          rw [List.length_map]
          cases t with
          | nil => exact if_f (decide_eq_false (by simp)) (iteF (plainIns fun t' h => by cases h))
          | cons s1 t' =>
            refine if_t (decide_eq_true (by simp; omega)) ?_
            refine ⟨_, rfl, a, _, _, sv s1, rfl, rfl, hS, atI_nat (j := 1) rfl, sv_scal _ _, _, rfl, ?_⟩
            have h1 : Proper s1 := hp s1 (List.mem_cons_of_mem _ List.mem_cons_self)
            rw [show Str.ofString "(" = S [40] from by decide +kernel, sv_open h1]
            by_cases ho : s1 = .open_
            · refine if_t (decide_eq_true ho) ?_
              subst ho
              refine ⟨_, rfl, _, rfl, _, rfl, _, rfl, _, rfl, a, _, rfl, hS, fun p np => ?_⟩
              have sm := same_upd (o := .lst (cutV ((sn :: .open_ :: t').map sv) (some 2) none)) (Same.refl H) np
              have er : readIns (sn :: .open_ :: t') = (putOps n t').map fun l => (n, true, l) := ins_openG ht hf
              refine ⟨n, p, t', rfl, ?_, fun s hs => hp s (List.mem_cons_of_mem _ (List.mem_cons_of_mem _ hs)), fun z H' s' => ?_, fun os hos H' q s' nq oq => ?_⟩
              · refine SqL.of ?_
                rw [upd_same, show (some (2 : Int)) = some ((2 : Nat) : Int) from rfl, cut_drop]
                rfl
              · rw [z] at er
                exact bad er H' (sm.trans s')
              · rw [hos] at er
                obtain ⟨i, hi, e1, e2, e3⟩ := good n true os er
                have mk := make H' q i hi (sm.trans s')
                rw [e1, e2, e3] at mk
                exact mk oq (sm.free nq)
            · exact if_f (decide_eq_false ho) (plainIns fun t2 h => ho (List.cons.inj h).1)
end
end Sl
set_option Elab.async false
set_option linter.all false
set_option maxRecDepth 100000
set_option maxHeartbeats 4000000
namespace Sl
open PySem PySem.Spec PyProof.Rows L2 SlM
theorem line_none {b : Bytes} (h : signsOf b = none) : readLine b = none := by
  unfold signsOf at h
  unfold readLine
  by_cases c : 255 < b.length
  · rw [if_pos c]
  · rw [if_neg c] at h ⊢
    rw [h]
    rfl
theorem line_plain {b : Bytes} {ss : List Sf47.Sign} (h : signsOf b = some ss) (hn : ∀ s r, ss ≠ s :: .colon :: r) : readLine b = (insOf ss).map fun i => (none, i) := by
  unfold signsOf at h
  unfold readLine
  by_cases c : 255 < b.length
  · rw [if_pos c] at h
    cases h
  · rw [if_neg c] at h ⊢
    rw [h, Option.bind_some]
    split
    · exact absurd rfl (hn _ _)
    · rfl
theorem line_lab {b : Bytes} {w : Bytes} {r : List Sf47.Sign} (h : signsOf b = some (.word w :: .colon :: r)) : readLine b = if Sf47.taken w = true then none else (insOf r).map fun i => (some w, i) := by
  unfold signsOf at h
  unfold readLine
  by_cases c : 255 < b.length
  · rw [if_pos c] at h
    cases h
  · rw [if_neg c] at h ⊢
    rw [h]
    rfl
theorem line_odd {b : Bytes} {s : Sf47.Sign} {r : List Sf47.Sign} (h : signsOf b = some (s :: .colon :: r)) (hw : ∀ w, s ≠ .word w) : readLine b = none := by
  unfold signsOf at h
  unfold readLine
  by_cases c : 255 < b.length
  · rw [if_pos c] at h
    cases h
  · rw [if_neg c] at h ⊢
    rw [h, Option.bind_some]
    have e : insOf (s :: .colon :: r) = none := by
      unfold insOf
      rw [if_neg (by simp), insn_nonword hw]
      rfl
    split
    · rename_i w' r' q
      exact absurd (List.cons.inj q).1 (hw _)
    · rw [e]
      rfl
theorem signs_proper {b : Bytes} {ss : List Sf47.Sign} (h : signsOf b = some ss) : ∀ s ∈ ss, Proper s := by
  unfold signsOf at h
  by_cases c : 255 < b.length
  · rw [if_pos c] at h
    cases h
  · rw [if_neg c] at h
    exact sg_proper b.length b ss (Nat.le_refl _) h
section
variable {P : Program} {w : World} {K : PySem.W.Frag} {mg : Str → Option Value} {base : Heap} {CU CL fI : Addr} {fdI : FuncData}
def spLine (CU CL : Addr) : Sp := fun vs H Q E => ∃ b : Bytes, vs = [.str (S b)] ∧ b.length ≤ 70000 ∧ (readLine b = none → ∀ H', Same H H' → E (.ref CU) none H') ∧ (∀ pl, readLine b = some pl → ∀ H' r, Same H H' → H r = none → LineNew CL H H' r pl → Q (.ref r) H')
theorem sc_rln : FnScope ["row", "signs"] ["row"] (defScope s_read_line) := ⟨rfl, rfl, rfl, by decide +kernel, rfl, by decide +kernel, by decide +kernel⟩
theorem ok_line {f : Addr} {fd : FuncData} (F : Fun K "read_line" "read_line" s_read_line f fd) (hl : mg "len" = none) (G : Df P w K mg base (L2N.CX P w) 4 "signs_of" ["row"] (spSigns CU))
    (L : Df P w K mg base (L2N.CX P w) 3 "read_label" ["sign"] (spLabel CU)) (I : Df P w K mg base (L2N.CX P w) 7 "read_instruction" ["label", "signs"] (spIns K CU CL)) : FnOk P w K mg base (L2N.CX P w) 8 f fd ["row"] (spLine CU CL) := by
  obtain ⟨fG, fdG, mG, kG, bG, FG⟩ := G
  obtain ⟨fL, fdL, mL, kL, bL, FL⟩ := L
  obtain ⟨fN, fdN, mN, kN, bN, FN⟩ := I
  refine okN F sc_rln (fun vs H Q E h => ?_) (fun cdv A outer s H vs Q E hr h => ?_)
  · obtain ⟨b, rfl, _⟩ := h
    rfl
  · have hr4 : Room 4 _ := hr.mono (by decide)
    have hr3 : Room 3 _ := hr.mono (by decide)
    refine ⟨_, pss_cons (ps_set (i := 1) sc_rln.nd rfl (Or.inl rfl) (pe_callS FG hr4 (by rfl) mG kG bG (fun σ => L2N.passAt (L2N.takes_of rfl rfl rfl rfl) σ) (pa_cons (pv 0) pa_nil)))
      (pss_cons (ps_if (PW.pt (pw_or (pt_cmpR op_lt (pe_callB call_len_seq (by rfl) hl PySem.boot_len (pa_cons (pv 1) pa_nil)) pe_int (nomark _)) (pw_or1 (pt_cmpR op_ne (pe_ix ix_list (pv 1) pe_int (fun _ _ => rfl)) pe_str (nomark _)))))
        (pss_one (ps_ret (pe_callS FN hr (by rfl) mN kN bN (fun σ => L2N.passAt (L2N.takes_of rfl rfl rfl rfl) σ) (pa_cons pe_non (pa_cons (pv 1) pa_nil))))) pss_nil)
      (pss_one (ps_ret (pe_callS FN hr (by rfl) mN kN bN (fun σ => L2N.passAt (L2N.takes_of rfl rfl rfl rfl) σ)
        (pa_cons (pe_callS FL hr3 (by rfl) mL kL bL (fun σ => L2N.passAt (L2N.takes_of rfl rfl rfl rfl) σ) (pa_cons (pe_ix ix_list (pv 1) pe_int (fun _ _ => rfl)) pa_nil))
          (pa_cons (pe_slice sl_list (pv 1) (po_some pe_int) po_none) pa_nil)))))), ?_⟩
    obtain ⟨b, rfl, hb, kF, kS⟩ := h
    refine ⟨_, rfl, b, rfl, hb, fun z H' s' => kF (line_none z) H' s', fun ss hs H1 p s1 np hp1 => ?_⟩
    have hpr := signs_proper hs
    have hS : SqL K H1 p (ss.map sv) := SqL.of hp1
    -- an instruction without a label
    have plain : (∀ s r, ss ≠ s :: .colon :: r) → ∃ v, [some (V.str (S b)), some (V.ref p)][1]? = some (some v) ∧ spIns K CU CL [.non, v] H1 Q E := fun hn => by
      have e := line_plain hs hn
      refine ⟨_, rfl, none, p, ss, rfl, hS, hpr, fun z H' s' => ?_, fun i hi H' r s' nr hr' => ?_⟩
      · exact kF (by rw [e, z]; rfl) H' (s1.trans s')
      · exact kS (none, i) (by rw [e, hi]; rfl) H' r (s1.trans s') (s1.free nr) (hr'.back s1)
    refine ⟨_, rfl, p, _, rfl, .inl hS, _, _, rfl, rfl, _, rfl, ?_⟩
    rw [List.length_map]
    rcases ss with _ | ⟨s0, _ | ⟨sc, r⟩⟩
    · exact if_t (decide_eq_true (by simp)) (iteT (plain fun s r h => by cases h))
    · exact if_t (decide_eq_true (by simp)) (iteT (plain fun s r h => by cases h))
    · refine if_f (decide_eq_false (by simp; omega)) ?_
      refine ⟨_, rfl, p, _, _, sv sc, rfl, rfl, hS, atI_nat (j := 1) rfl, sv_scal _ _, _, rfl, ?_⟩
      have h1 : Proper sc := hpr sc (List.mem_cons_of_mem _ List.mem_cons_self)
      rw [show Str.ofString ":" = S [58] from by decide +kernel, sv_colon h1]
      by_cases ho : sc = .colon
      · refine if_f (by rw [decide_eq_true ho]; rfl) ?_
        subst ho
        have h0 : Proper s0 := hpr s0 List.mem_cons_self
        refine ⟨_, rfl, p, _, _, sv s0, rfl, rfl, hS, atI_nat (j := 0) rfl, s0, rfl, h0, fun z H' s' => ?_, fun wd ew ht H2 s2 => ?_⟩
        · refine kF ?_ H' (s1.trans s')
          by_cases hw : ∃ wd, s0 = .word wd
          · obtain ⟨wd, rfl⟩ := hw
            rw [line_lab hs, if_pos (z wd rfl)]
          · exact line_odd hs fun wd e => hw ⟨wd, e⟩
        · subst ew
          have e := line_lab hs
          rw [ht, if_neg (by simp)] at e
          have hS2 : SqL K H2 p ((Sf47.Sign.word wd :: .colon :: r).map sv) := s2.seq hS
          refine ⟨_, rfl, _, rfl, p, _, rfl, hS2, fun q nq => ?_⟩
          have sm := same_upd (o := .lst (cutV ((Sf47.Sign.word wd :: .colon :: r).map sv) (some 2) none)) (Same.refl H2) nq
          refine ⟨some wd, q, r, rfl, ?_, fun s hs' => hpr s (List.mem_cons_of_mem _ (List.mem_cons_of_mem _ hs')), fun z H' s' => ?_, fun i hi H' r' s' nr hr' => ?_⟩
          · refine SqL.of ?_
            rw [upd_same, show (some (2 : Int)) = some ((2 : Nat) : Int) from rfl, cut_drop]
            rfl
          · exact kF (by rw [e, z]; rfl) H' (s1.trans (s2.trans (sm.trans s')))
          · exact kS (some wd, i) (by rw [e, hi]; rfl) H' r' (s1.trans (s2.trans (sm.trans s'))) (s1.free (s2.free (sm.free nr))) (hr'.back (s1.trans (s2.trans sm)))
      · exact if_t (by rw [decide_eq_false ho]; rfl) (plain fun s r h => ho (List.cons.inj (List.cons.inj h).2).1)
end
end Sl
set_option Elab.async false
set_option linter.all false
set_option maxRecDepth 100000
set_option maxHeartbeats 4000000
namespace Sl
open PySem PySem.Spec PyProof.Rows L2 SlM
theorem bin_par (o : Sf47.Bin) : noPar.contains (binName o) = false ∧ decide (binName o = Sf47.txt ")") = false := by
  cases o with
  | logic o b => cases o <;> cases b <;> decide +kernel
  | arith o => cases o <;> decide +kernel
  | cmp o => cases o <;> decide +kernel
theorem in_par (i : Sf47.Insn) : noPar.contains (insKV i).1 = !Sf47.inside i := by
  cases i with
  | bin o x => exact (bin_par o).1
  | open_ o x => exact (bin_par o).1
  | ld x => exact (by decide +kernel : noPar.contains (Sf47.txt "LD") = false)
  | ldn b => exact (by decide +kernel : noPar.contains (Sf47.txt "LDN") = false)
  | st n b =>
    cases n
    · exact (by decide +kernel : noPar.contains (Sf47.txt "ST") = true)
    · exact (by decide +kernel : noPar.contains (Sf47.txt "STN") = true)
  | stw n => exact (by decide +kernel : noPar.contains (Sf47.txt "ST") = true)
  | put n b =>
    cases n
    · exact (by decide +kernel : noPar.contains (Sf47.txt "R") = true)
    · exact (by decide +kernel : noPar.contains (Sf47.txt "S") = true)
  | not => exact (by decide +kernel : noPar.contains (Sf47.txt "NOT") = false)
  | close => exact (by decide +kernel : noPar.contains (Sf47.txt ")") = false)
  | jmp k l =>
    cases k
    · exact (by decide +kernel : noPar.contains (Sf47.txt "JMP") = true)
    · exact (by decide +kernel : noPar.contains (Sf47.txt "JMPC") = true)
    · exact (by decide +kernel : noPar.contains (Sf47.txt "JMPCN") = true)
  | ret c =>
    cases c
    · exact (by decide +kernel : noPar.contains (Sf47.txt "RET") = true)
    · exact (by decide +kernel : noPar.contains (Sf47.txt "RETC") = true)
  | timer k t w =>
    cases k
    · exact (by decide +kernel : noPar.contains (Sf47.txt "TON") = false)
    · exact (by decide +kernel : noPar.contains (Sf47.txt "TOF") = false)
    · exact (by decide +kernel : noPar.contains (Sf47.txt "TP") = false)
  | ctu c w => exact (by decide +kernel : noPar.contains (Sf47.txt "CTU") = false)
  | rc c => exact (by decide +kernel : noPar.contains (Sf47.txt "RC") = false)
  | edge u m =>
    cases u
    · exact (by decide +kernel : noPar.contains (Sf47.txt "DOWN") = false)
    · exact (by decide +kernel : noPar.contains (Sf47.txt "UP") = false)
theorem is_close (i : Sf47.Insn) : decide ((insKV i).1 = Sf47.txt ")") = decide (i = .close) := by
  cases i with
  | bin o x => exact (bin_par o).2.trans (decide_eq_false (fun h => by cases h)).symm
  | open_ o x => exact (bin_par o).2.trans (decide_eq_false (fun h => by cases h)).symm
  | ld x => exact (by decide +kernel : decide (Sf47.txt "LD" = Sf47.txt ")") = false).trans (decide_eq_false (fun h => by cases h)).symm
  | ldn b => exact (by decide +kernel : decide (Sf47.txt "LDN" = Sf47.txt ")") = false).trans (decide_eq_false (fun h => by cases h)).symm
  | st n b =>
    cases n
    · exact (by decide +kernel : decide (Sf47.txt "ST" = Sf47.txt ")") = false).trans (decide_eq_false (fun h => by cases h)).symm
    · exact (by decide +kernel : decide (Sf47.txt "STN" = Sf47.txt ")") = false).trans (decide_eq_false (fun h => by cases h)).symm
  | stw n => exact (by decide +kernel : decide (Sf47.txt "ST" = Sf47.txt ")") = false).trans (decide_eq_false (fun h => by cases h)).symm
  | put n b =>
    cases n
    · exact (by decide +kernel : decide (Sf47.txt "R" = Sf47.txt ")") = false).trans (decide_eq_false (fun h => by cases h)).symm
    · exact (by decide +kernel : decide (Sf47.txt "S" = Sf47.txt ")") = false).trans (decide_eq_false (fun h => by cases h)).symm
  | not => exact (by decide +kernel : decide (Sf47.txt "NOT" = Sf47.txt ")") = false).trans (decide_eq_false (fun h => by cases h)).symm
  | close => exact (decide_eq_true rfl).trans (decide_eq_true rfl).symm
  | jmp k l =>
    cases k
    · exact (by decide +kernel : decide (Sf47.txt "JMP" = Sf47.txt ")") = false).trans (decide_eq_false (fun h => by cases h)).symm
    · exact (by decide +kernel : decide (Sf47.txt "JMPC" = Sf47.txt ")") = false).trans (decide_eq_false (fun h => by cases h)).symm
    · exact (by decide +kernel : decide (Sf47.txt "JMPCN" = Sf47.txt ")") = false).trans (decide_eq_false (fun h => by cases h)).symm
  | ret c =>
    cases c
    · exact (by decide +kernel : decide (Sf47.txt "RET" = Sf47.txt ")") = false).trans (decide_eq_false (fun h => by cases h)).symm
    · exact (by decide +kernel : decide (Sf47.txt "RETC" = Sf47.txt ")") = false).trans (decide_eq_false (fun h => by cases h)).symm
  | timer k t w =>
    cases k
    · exact (by decide +kernel : decide (Sf47.txt "TON" = Sf47.txt ")") = false).trans (decide_eq_false (fun h => by cases h)).symm
    · exact (by decide +kernel : decide (Sf47.txt "TOF" = Sf47.txt ")") = false).trans (decide_eq_false (fun h => by cases h)).symm
    · exact (by decide +kernel : decide (Sf47.txt "TP" = Sf47.txt ")") = false).trans (decide_eq_false (fun h => by cases h)).symm
  | ctu c w => exact (by decide +kernel : decide (Sf47.txt "CTU" = Sf47.txt ")") = false).trans (decide_eq_false (fun h => by cases h)).symm
  | rc c => exact (by decide +kernel : decide (Sf47.txt "RC" = Sf47.txt ")") = false).trans (decide_eq_false (fun h => by cases h)).symm
  | edge u m =>
    cases u
    · exact (by decide +kernel : decide (Sf47.txt "DOWN" = Sf47.txt ")") = false).trans (decide_eq_false (fun h => by cases h)).symm
    · exact (by decide +kernel : decide (Sf47.txt "UP" = Sf47.txt ")") = false).trans (decide_eq_false (fun h => by cases h)).symm
theorem opens_d (i : Sf47.Insn) (d : Nat) : (insKV i).2.1 = true → dOf i d = d + 1 ∧ i ≠ .close := by
  cases i with
  | open_ o x => exact fun _ => ⟨rfl, fun h => by cases h⟩
  | _ => intro h; cases h
theorem plain_d (i : Sf47.Insn) (d : Nat) : (insKV i).2.1 = false → i ≠ .close → dOf i d = d := by
  cases i with
  | open_ o x => intro h; cases h
  | close => intro _ h; exact absurd rfl h
  | _ => exact fun _ _ => rfl
theorem lab_non (lab : Option Bytes) : (!decide (labV lab = V.non)) = lab.isSome := by
  cases lab with
  | none => rfl
  | some w => rfl
theorem scal_non (n : Str) : scal .non (.str n) = true := rfl
section
variable {P : Program} {w : World} {K : PySem.W.Frag} {mg : Str → Option Value} {base : Heap} {CU CL fI : Addr} {fdI : FuncData}
/-! ### depth_behind -/
def spDepth (CU CL : Addr) : Sp := fun vs H Q E => ∃ (r : Addr) (pl : PLine) (d : Nat), vs = [.ref r, .int d] ∧ LineAt CL H r pl ∧ d ≤ 8 ∧ (depthStep pl d = none → E (.ref CU) none H) ∧ (∀ d', depthStep pl d = some d' → Q (.int (d' : Nat)) H)
theorem sc_dep : FnScope ["line", "depth"] ["line", "depth"] (defScope s_depth_behind) := ⟨rfl, rfl, rfl, by decide +kernel, rfl, by decide +kernel, by decide +kernel⟩
theorem ok_depth {f : Addr} {fd : FuncData} (F : Fun K "depth_behind" "depth_behind" s_depth_behind f fd) (U : UnTxt K mg CU) (T : LnTxt K mg CL fI fdI) (cD : TxtC mg "DEPTH_LIMIT" (.int 8)) (C : TupC K mg "NOT_IN_PARENTHESES" noPar) : FnOk P w K mg base (L2N.CX P w) 1 f fd ["line", "depth"] (spDepth CU CL) := by
  obtain ⟨uC, mC, tC⟩ := C
  obtain ⟨aC, rfl, qC⟩ := id tC
  obtain ⟨uD, mD, rD⟩ := cD
  refine okN F sc_dep (fun vs H Q E h => ?_) (fun cdv A outer s H vs Q E hr h => ?_)
  · obtain ⟨r, pl, d, rfl, _⟩ := h
    rfl
  · refine ⟨_, pss_cons (ps_if (PW.pt (pw_and (pt_cmpR op_gt (pv 1) pe_int (nomark _)) (pw_and1 (PW.pt (pw_or (pt_cmpR op_notN (pe_fld (pv 0) (by rfl)) pe_non (nomark _)) (pw_or1 (pt_cmpR op_in_seq (pe_fld (pv 0) (by rfl)) (pe_glob (v := .ref aC) (by rfl) mC rfl) (by rfl))))))))
        (pss_one (L2N.ps_raise rfl (L2N.takes_of rfl rfl rfl rfl) (pmk_bare PySem.F.excBase_Exception U.xF U.gF U.kF (raises_own U.bF U.tF) (by rfl)))) pss_nil)
      (pss_cons (ps_if (pt_val (pe_fld (pv 0) (by rfl))) (pss_one (ps_aug (i := 1) sc_dep.nd rfl (Or.inl rfl) pe_int ip_add))
        (pss_one (ps_if (pt_cmpR op_eq (pe_fld (pv 0) (by rfl)) pe_str (nomark _)) (pss_one (ps_aug (i := 1) sc_dep.nd rfl (Or.inl rfl) pe_int ip_sub)) pss_nil)))
      (pss_cons (ps_if (PW.pt (pw_or (pt_cmpR op_lt (pv 1) pe_int (nomark _)) (pw_or1 (pt_cmpR op_gt (pv 1) (pe_glob (by rfl) mD rD) (nomark _)))))
        (pss_one (L2N.ps_raise rfl (L2N.takes_of rfl rfl rfl rfl) (pmk_bare PySem.F.excBase_Exception U.xF U.gF U.kF (raises_own U.bF U.tF) (by rfl)))) pss_nil)
      (pss_one (ps_ret (pv 1))))), ?_⟩
    obtain ⟨r, pl, d, rfl, ⟨dx, q, hr1, hq⟩, hd, kF, kS⟩ := h
    obtain ⟨lab, i⟩ := pl
    -- the last test
    have tail : ∀ z : Int, ((z < 0 ∨ 8 < z) → E (.ref CU) none H) → (¬ (z < 0 ∨ 8 < z) → Q (.int z) H) →
        tSeq (tIfS (tOr (tTest (tOp (rI0 fun i j => V.bl (decide (i < j))) (tVar 1) (L2.tC (V.int 0)))) (tTest (tOp (rI0 fun i j => V.bl (decide (j < i))) (tVar 1) (L2.tC (V.int 8))))) (fun x σ H => E (Value.ref CU) none H) tNext) (tRet (tVar 1))
          { nx := fun _ H' => Q .non H', rt := Q } [some (.ref r), some (.int z)] H := by
      intro z h1 h2
      refine ⟨_, rfl, _, _, rfl, rfl, _, rfl, ?_⟩
      refine ite2 (fun c => iteT (h1 (.inl (of_decide_eq_true c)))) (fun c => ?_)
      refine ⟨_, rfl, _, _, rfl, rfl, _, rfl, ?_⟩
      refine ite2 (fun c2 => h1 (.inr (of_decide_eq_true c2))) (fun c2 => ?_)
      exact ⟨_, rfl, h2 fun q => q.elim (fun q => c (decide_eq_true q)) fun q => c2 (decide_eq_true q)⟩
    -- behind the first test
    have rest : ¬ (d ≠ 0 ∧ (lab.isSome = true ∨ hasInside i = false)) →
        tSeq (tIfS (tB (tFld K (tVar 0) "opens")) (tAug 1 (L2.tC (V.int 1)) (ipI fun i j => i + j))
            (tIfS (tTest (tOp rEq (tFld K (tVar 0) "name") (L2.tC (V.str (Str.ofString ")"))))) (tAug 1 (L2.tC (V.int 1)) (ipI fun i j => i - j)) tNext))
          (tSeq (tIfS (tOr (tTest (tOp (rI0 fun i j => V.bl (decide (i < j))) (tVar 1) (L2.tC (V.int 0)))) (tTest (tOp (rI0 fun i j => V.bl (decide (j < i))) (tVar 1) (L2.tC (V.int 8))))) (fun x σ H => E (Value.ref CU) none H) tNext) (tRet (tVar 1)))
          { nx := fun _ H' => Q .non H', rt := Q } [some (.ref r), some (.int d)] H := by
      intro hn
      cases i with
      | none =>
        have e : depthStep (lab, none) d = some d := by rw [depth_none, if_neg fun q => hn ⟨q.1, .inl q.2⟩]
        refine ⟨_, rfl, r, CL, dx, _, _, rfl, hr1, T.cl, T.nO, lnF_opens _ _ _ _, _, rfl, iteF ?_⟩
        refine ⟨_, rfl, r, CL, dx, _, _, rfl, hr1, T.cl, T.nN, lnF_name _ _ _ _, scal_non _, _, rfl, iteF ?_⟩
        exact tail d (fun q => by omega) fun _ => kS d e
      | some i =>
        have e := depth_some lab i d hd
        rw [if_neg (c := d ≠ 0 ∧ (lab.isSome = true ∨ Sf47.inside i = false)) hn] at e
        refine ⟨_, rfl, r, CL, dx, _, _, rfl, hr1, T.cl, T.nO, lnF_opens _ _ _ _, _, rfl, ?_⟩
        show if (insKV i).2.1 = true then _ else _
        cases ho : (insKV i).2.1 with
        | true =>
          obtain ⟨h1, h2⟩ := opens_d i d ho
          rw [if_neg (c := i = .close ∧ d = 0) (fun q => h2 q.1), h1] at e
          refine iteT ⟨_, rfl, _, _, rfl, rfl, ?_⟩
          refine tail ((d : Int) + 1) (fun q => kF ?_) (fun q => ?_)
          · rw [e, if_pos (by omega)]
          · have := kS (d + 1) (by rw [e, if_neg (by omega)])
            exact this
        | false =>
          refine iteF ⟨_, rfl, r, CL, dx, _, _, rfl, hr1, T.cl, T.nN, lnF_name _ _ _ _, rfl, _, rfl, ?_⟩
          show if decide (V.str (S (insKV i).1) = V.str (Str.ofString ")")) = true then _ else _
          rw [S_txt ")", str_eq, is_close]
          by_cases hc : i = .close
          · refine if_t (decide_eq_true hc) ⟨_, rfl, _, _, rfl, rfl, ?_⟩
            subst hc
            by_cases d0 : d = 0
            · refine tail ((d : Int) - 1) (fun q => kF ?_) (fun q => absurd (.inl (by omega)) q)
              rw [e, if_pos ⟨rfl, d0⟩]
            · refine tail ((d : Int) - 1) (fun q => by omega) (fun q => ?_)
              have := kS (d - 1) (by rw [e, if_neg (fun q => d0 q.2)]; show (if 8 < d - 1 then none else some (d - 1)) = _; rw [if_neg (by omega)])
              rw [show ((d : Int) - 1) = ((d - 1 : Nat) : Int) by omega]
              exact this
          · refine if_f (decide_eq_false hc) ?_
            rw [if_neg (c := i = .close ∧ d = 0) (fun q => hc q.1), plain_d i d ho hc, if_neg (by omega)] at e
            exact tail d (fun q => by omega) fun _ => kS d e
    by_cases c0 : d = 0
    · exact ⟨_, rfl, _, _, rfl, rfl, _, rfl, if_f (decide_eq_false (by omega)) (iteF (rest fun q => q.1 c0))⟩
    · refine ⟨_, rfl, _, _, rfl, rfl, _, rfl, if_t (decide_eq_true (by omega)) ?_⟩
      refine ⟨_, rfl, r, CL, dx, _, _, rfl, hr1, T.cl, T.nL, lnF_label _ _ _ _, rfl, _, rfl, ?_⟩
      rw [lab_non]
      have bad : (lab.isSome = true ∨ hasInside i = false) → depthStep (lab, i) d = none := fun q => by
        unfold depthStep
        rw [if_pos ⟨c0, q⟩]
      refine ite2 (fun c => iteT (kF (bad (.inl c)))) (fun c => ?_)
      refine ⟨_, rfl, r, CL, dx, _, _, rfl, hr1, T.cl, T.nN, lnF_name _ _ _ _, aC, _, rfl, .inr (.inr qC), ?_, flat_strs _, _, rfl, ?_⟩
      · cases i <;> rfl
      cases i with
      | none => exact iteF (rest fun q => q.2.elim c (fun z => by cases z))
      | some i =>
        show (if inV (V.str (S (insKV i).1)) (noPar.map fun b => V.str (S b)) = true then _ else _)
        rw [in_strs, in_par]
        cases hi : Sf47.inside i with
        | true => exact iteF (rest fun q => q.2.elim c (fun z => by rw [show hasInside (some i) = Sf47.inside i from rfl, hi] at z; cases z))
        | false => exact iteT (kF (bad (.inr hi)))
/-! ### instructions_with -/
def spCount (CU CL : Addr) : Sp := fun vs H Q E => ∃ (r : Addr) (pl : PLine) (n : Nat), vs = [.ref r, .int n] ∧ LineAt CL H r pl ∧ n ≤ 4096 ∧ ((pl.2.isSome = true ∧ 4096 ≤ n) → E (.ref CU) none H) ∧ (¬ (pl.2.isSome = true ∧ 4096 ≤ n) → Q (.int ((n + (match pl.2 with | some _ => 1 | none => 0) : Nat) : Int)) H)
theorem sc_cnt : FnScope ["line", "instructions"] ["line", "instructions"] (defScope s_instructions_with) := ⟨rfl, rfl, rfl, by decide +kernel, rfl, by decide +kernel, by decide +kernel⟩
theorem ok_count {f : Addr} {fd : FuncData} (F : Fun K "instructions_with" "instructions_with" s_instructions_with f fd) (U : UnTxt K mg CU) (T : LnTxt K mg CL fI fdI) (cD : TxtC mg "INSTRUCTION_LIMIT" (.int 4096)) : FnOk P w K mg base (L2N.CX P w) 1 f fd ["line", "instructions"] (spCount CU CL) := by
  obtain ⟨uD, mD, rD⟩ := cD
  refine okN F sc_cnt (fun vs H Q E h => ?_) (fun cdv A outer s H vs Q E hr h => ?_)
  · obtain ⟨r, pl, n, rfl, _⟩ := h
    rfl
  · refine ⟨_, pss_cons (ps_if (pt_cmpR op_notN (pe_fld (pv 0) (by rfl)) pe_non (nomark _)) (pss_one (ps_aug (i := 1) sc_cnt.nd rfl (Or.inl rfl) pe_int ip_add)) pss_nil)
      (pss_cons (ps_if (pt_cmpR op_gt (pv 1) (pe_glob (by rfl) mD rD) (nomark _))
        (pss_one (L2N.ps_raise rfl (L2N.takes_of rfl rfl rfl rfl) (pmk_bare PySem.F.excBase_Exception U.xF U.gF U.kF (raises_own U.bF U.tF) (by rfl)))) pss_nil)
      (pss_one (ps_ret (pv 1)))), ?_⟩
    obtain ⟨r, ⟨lab, i⟩, n, rfl, ⟨dx, q, hr1, hq⟩, hd, kF, kS⟩ := h
    refine ⟨_, rfl, r, CL, dx, _, _, rfl, hr1, T.cl, T.nN, lnF_name _ _ _ _, rfl, _, rfl, ?_⟩
    cases i with
    | none =>
      refine iteF ⟨_, rfl, _, _, rfl, rfl, _, rfl, if_f (decide_eq_false (by omega)) ⟨_, rfl, ?_⟩⟩
      exact kS fun z => by cases z.1
    | some i =>
      refine iteT ⟨_, rfl, _, _, rfl, rfl, ?_⟩
      refine ⟨_, rfl, _, _, rfl, rfl, _, rfl, ?_⟩
      refine ite2 (fun c => kF ⟨rfl, ?_⟩) (fun c => ⟨_, rfl, kS fun z => c (decide_eq_true ?_)⟩)
      · have q1 : (4096 : Int) < (n : Int) + 1 := of_decide_eq_true c
        omega
      · have := z.2
        show (4096 : Int) < (n : Int) + 1
        omega
end
end Sl
set_option Elab.async false
set_option linter.all false
set_option maxRecDepth 100000
set_option maxHeartbeats 4000000
namespace Sl
open PySem PySem.Spec PyProof.Rows L2 SlM
def LinesAt (CL : Addr) (H : Hp) (a : Addr) (pls : List PLine) : Prop := ∃ rs : List Addr, H a = some (.lst (rs.map V.ref)) ∧ Paired (fun r pl => LineAt CL H r pl) rs pls
theorem paired_at {α β : Type} {R : α → β → Prop} : ∀ {l : List α} {m : List β}, Paired R l m → ∀ {i : Nat} {a : α}, l[i]? = some a → ∃ b, m[i]? = some b ∧ R a b
  | _, _, .nil, i, a, h => by cases h
  | _, _, .cons r t, 0, a, h => by
    cases h
    exact ⟨_, rfl, r⟩
  | _, _, .cons r t, i + 1, a, h => by
    rw [List.getElem?_cons_succ] at h
    obtain ⟨b, h1, h2⟩ := paired_at t h
    exact ⟨b, by rw [List.getElem?_cons_succ]; exact h1, h2⟩
theorem paired_len {α β : Type} {R : α → β → Prop} : ∀ {l : List α} {m : List β}, Paired R l m → l.length = m.length
  | _, _, .nil => rfl
  | _, _, .cons _ t => by rw [List.length_cons, List.length_cons, paired_len t]
theorem lines_same {CL : Addr} {H H' : Hp} {a : Addr} {pls : List PLine} (s : Same H H') (h : LinesAt CL H a pls) : LinesAt CL H' a pls := by
  obtain ⟨rs, h1, h2⟩ := h
  exact ⟨rs, s _ _ h1, Paired.mapP h2 fun r pl e => line_same s e⟩
/-- a dict of names -/
def Has (kvs : List (Key × V)) (ns : List Bytes) : Prop := ∀ w : Bytes, (valV kvs (Sum.inr (S w))).isSome = decide (w ∈ ns)
theorem has_nil : Has [] [] := fun w => rfl
theorem has_put {kvs : List (Key × V)} {ns : List Bytes} (h : Has kvs ns) (w : Bytes) (v : V) : Has (putK kvs (Sum.inr (S w)) v) (ns ++ [w]) := fun x => by
  rw [valV_put]
  by_cases e : x = w
  · subst e
    rw [if_pos rfl]
    exact (decide_eq_true (by simp)).symm
  · rw [if_neg (fun z => e (S_inj (Sum.inr.inj z))), h x]
    exact decide_eq_decide.mpr (by simp [e])
theorem put_len {kvs : List (Key × V)} {k : Key} {v : V} : (putK kvs k v).length ≤ kvs.length + 1 := by
  unfold putK
  split
  · rw [List.length_map]; exact Nat.le_succ _
  · rw [List.length_append]; exact Nat.le_refl _
theorem names_at {pls : List PLine} {i : Nat} {pl : PLine} (h : pls[i]? = some pl) : names (pls.take (i + 1)) = names (pls.take i) ++ (match pl.1 with | some w => [w] | none => []) := by
  rw [List.take_succ, h]
  unfold names
  rw [List.filterMap_append]
  congr 1
  show List.filterMap (fun pl : PLine => pl.1) [pl] = _
  rw [List.filterMap_cons]
  cases pl.1 <;> rfl
section
variable {P : Program} {w : World} {K : PySem.W.Frag} {mg : Str → Option Value} {base : Heap} {CU CL fI : Addr} {fdI : FuncData}
/-! ### labels_of -/
def spLabels (CL : Addr) : Sp := fun vs H Q _ => ∃ (a : Addr) (pls : List PLine), vs = [.ref a] ∧ LinesAt CL H a pls ∧ pls.length ≤ 70000 ∧ ∀ H' d kvs, Same H H' → H d = none → H' d = some (.dK kvs) → Has kvs (names pls) → Q (.ref d) H'
theorem sc_lbs : FnScope ["lines", "labels", "line"] ["lines"] (defScope s_labels_of) := ⟨rfl, rfl, rfl, by decide +kernel, rfl, by decide +kernel, by decide +kernel⟩
theorem ok_labels {f : Addr} {fd : FuncData} (F : Fun K "labels_of" "labels_of" s_labels_of f fd) (T : LnTxt K mg CL fI fdI) : FnOk P w K mg base CX0 1 f fd ["lines"] (spLabels CL) := by
  refine F.ok sc_lbs (fun vs H Q E h => ?_) (fun cdv A outer s H vs Q E hr h => ?_)
  · obtain ⟨a, pls, rfl, _⟩ := h
    rfl
  · have hu := hu_of hr
    refine ⟨_, pss_cons (ps_set (i := 1) sc_lbs.nd rfl (Or.inl rfl) pe_dnewK)
      (pss_cons (ps_for PassesOwn.never rfl (pi_list (pv 0)) (pg_name (i := 2) sc_lbs.nd rfl (Or.inl rfl))
        (pss_one (ps_if (pt_cmpR op_notN (pe_fld (pv 2) (by rfl)) pe_non (nomark _)) (pss_one (ps_dput hu (pv 1) (pe_fld (pv 2) (by rfl)) pe_bl rfl)) pss_nil)))
      (pss_one (ps_ret (pv 1)))), ?_⟩
    obtain ⟨a, pls, rfl, hL, hl, q⟩ := h
    intro d nd
    obtain ⟨rs, h1, h2⟩ := id hL
    have hne : a ≠ d := ne_of_none h1 nd
    have sd : ∀ o, Same H (upd H d o) := fun o x ob e => by rw [upd_ne (ne_of_none e nd)]; exact e
    have ln := paired_len h2
    refine ⟨_, rfl, a, rfl, ⟨_, (sd _).seq (SqL.of h1)⟩, ?_⟩
    refine for_list (K := K) (a := a) (xs := rs.map V.ref) (fun i σ H' => ∃ (v : Option V) (kvs : List (Key × V)), σ = [some (.ref a), some (.ref d), v] ∧ H' = upd H d (.dK kvs) ∧ kvs.length ≤ i ∧ Has kvs (names (pls.take i)))
      ⟨none, [], rfl, rfl, Nat.le_refl _, has_nil⟩ ?_ ?_ ?_
    · rintro i σ H' _ ⟨v, kvs, rfl, rfl, _⟩
      exact (sd _).seq (SqL.of h1)
    · rintro i x σ H' hx ⟨v, kvs, rfl, rfl, hk, hh⟩
      rw [List.getElem?_map] at hx
      obtain ⟨r, hr', rfl⟩ := Option.map_eq_some_iff.mp hx
      obtain ⟨pl, hp, la⟩ := paired_at h2 hr'
      obtain ⟨dx, p, e1, _⟩ := line_same (sd (.dK kvs)) la
      have hi : i < pls.length := (List.getElem?_eq_some_iff.mp hp).1
      have en := names_at hp
      refine ⟨_, rfl, r, CL, dx, _, _, rfl, e1, T.cl, T.nL, lnF_label _ _ _ _, rfl, _, rfl, ?_⟩
      rw [lab_non]
      cases hlab : pl.1 with
      | none =>
        rw [hlab, List.append_nil] at en
        refine iteF ⟨_, kvs, rfl, rfl, Nat.le_succ_of_le hk, ?_⟩
        rw [en]
        exact hh
      | some wd =>
        rw [hlab] at en e1
        refine iteT ⟨_, rfl, _, rfl, r, CL, dx, _, _, rfl, e1, T.cl, T.nL, lnF_label _ _ _ _, d, _, rfl, DPut.k (k := Sum.inr (S wd)) upd_same (Nat.lt_of_le_of_lt hk (Nat.lt_of_lt_of_le hi (Nat.le_trans hl (by decide)))), ?_⟩
        refine ⟨_, _, rfl, upd_upd, Nat.le_trans put_len (Nat.succ_le_succ hk), ?_⟩
        rw [en]
        exact has_put hh wd _
    · rintro σ H' ⟨v, kvs, rfl, rfl, hk, hh⟩
      rw [List.length_map, ln, List.take_length] at hh
      exact ⟨_, rfl, q _ d kvs (sd _) nd upd_same hh⟩
end
end Sl
set_option Elab.async false
set_option linter.all false
set_option maxRecDepth 100000
set_option maxHeartbeats 4000000
/-! raising while an exception is handled whose context may have one exception behind it -/
namespace HotK
open PySem PySem.Spec PyProof.Rows HotX
/-- an exception's fields: its context is None, or stands in h with its own context None -/
def Ctx2 (h : Heap) (vs : Array Value) : Prop := vs[2]? = some .none ∨ ∃ (u : Addr) (ou : Obj) (us : Array Value), vs[2]? = some (.ref u) ∧ h.get? u = some ou ∧ ou.data = .fields us ∧ us[2]? = some .none
def HotAt2 (A : Around) (x1 : Addr) (h : Heap) : Prop := A.handled = some (.ref x1) ∧ ∃ (o : Obj) (vs : Array Value), h.get? x1 = some o ∧ o.data = .fields vs ∧ Ctx2 h vs
theorem Ctx2.keeps {h h' : Heap} {vs : Array Value} (c : Ctx2 h vs) (k : ∀ b o, h.get? b = some o → h'.get? b = some o) : Ctx2 h' vs := by
  rcases c with c | ⟨u, ou, us, c1, c2, c3, c4⟩
  · exact .inl c
  · exact .inr ⟨u, ou, us, c1, k _ _ c2, c3, c4⟩
/-- a record has one content -/
theorem same_fields {h : Heap} {x : Addr} {o o' : Obj} {vs vs' : Array Value} (e : h.get? x = some o) (d : o.data = .fields vs) (e' : h.get? x = some o') (d' : o'.data = .fields vs') : vs = vs' := by
  obtain rfl := Option.some.inj (e.symm.trans e')
  exact Data.fields.inj (d.symm.trans d')
section
variable {prog : Program} {w : World} {A : Around} {E : Value → Shared → Prop} {s : Shared}
/-- one look back along the contexts: at y nothing stands behind -/
theorem unchain_ends {y a x1 : Addr} {tog : Bool} {o : Obj} {vs : Array Value} {R : Result → Shared → Prop} (h : s.heap.get? y = some o) (d : o.data = .fields vs) (c : vs[2]? = some .none) (q : R (.ok (.ret .none)) s) :
    codeAny (model prog w) A (.builtin "proto.unchain" ⟨[.ref a, .ref y, .ref x1, .bool tog], []⟩) R s :=
  codeAny_builtin HotX.entry_unchain (wpAny_bind (m := field (.ref y) 2) (wpAny_field h d c (by simp; exact wpAny_pure q)))
theorem unchained2 {x1 a : Addr} {o1 : Obj} {vs1 : Array Value} {Q : Value → Shared → Prop} (h1 : s.heap.get? x1 = some o1) (d1 : o1.data = .fields vs1) (c1 : Ctx2 s.heap vs1) (hn : ∀ u, vs1[2]? = some (.ref u) → u ≠ a) (q : Q .none s) :
    wpAny (model prog w) A (holding [Value.ref a] (runValue (.builtin "proto.unchain" ⟨[.ref a, .ref x1, .ref x1, .bool false], []⟩))) Q E s := by
  apply wpAny_holding
  apply wpAny_runValue
  rcases c1 with c1 | ⟨u, ou, us, c1, g1, d2, c2⟩
  · exact unchain_ends h1 d1 c1 q
  have nx : u ≠ x1 := by
    rintro rfl
    rw [same_fields h1 d1 g1 d2, c2] at c1
    cases c1
  refine codeAny_builtin HotX.entry_unchain (wpAny_bind (m := field (.ref x1) 2) (wpAny_field h1 d1 c1 ?_))
  simp [nx, hn u c1]
  exact wpAny_pure ⟨Code.quiet_builtin _ (by decide +kernel), unchain_ends g1 d2 c2 q⟩
theorem raiseNew_hot2 {α : Type} {a x1 : Addr} {oe : Obj} {vs : Array Value} {Q : α → Shared → Prop} (hot : HotAt2 A x1 s.heap) (hne : x1 ≠ a) (hnu : ∀ (o : Obj) (vs : Array Value) (u : Addr), s.heap.get? x1 = some o → o.data = .fields vs → vs[2]? = some (.ref u) → u ≠ a) (ha : s.heap.get? a = some oe) (da : oe.data = .fields vs) (hi : 2 < vs.size)
    (hE : E (.ref a) { s with heap := s.heap.update a (Obj.mapFields (·.setIfInBounds 2 (.ref x1))) }) : wpAny (model prog w) A (raiseNew (.ref a) : Sem α) Q E s := by
  obtain ⟨handled, o1, vs1, h1, d1, c1⟩ := hot
  simp only [raiseNew]
  apply wpAny_bind
  apply wpAny_handled
  simp only [handled, ref_bne hne, if_true]
  exact wpAny_bind (unchained2 h1 d1 c1 (fun u e => hnu o1 vs1 u h1 d1 e) (wpAny_bind (chained ha da hi (wpAny_throw hE))))
theorem HotAt2.keeps {x1 : Addr} {h h' : Heap} (hot : HotAt2 A x1 h) (k : ∀ b o, h.get? b = some o → h'.get? b = some o) : HotAt2 A x1 h' := ⟨hot.1, hot.2.imp fun _ ⟨vs, e, d, c⟩ => ⟨vs, k _ _ e, d, c.keeps k⟩⟩
/-- what stands behind the one that is handled is there -/
theorem HotAt2.behind {x1 u : Addr} {h : Heap} {o : Obj} {vs : Array Value} (hot : HotAt2 A x1 h) (e : h.get? x1 = some o) (d : o.data = .fields vs) (c : vs[2]? = some (.ref u)) : ∃ ou, h.get? u = some ou := by
  obtain ⟨_, o', vs', e', d', c' | ⟨v, ou, _, c', g, _⟩⟩ := hot <;> rw [same_fields e d e' d', c'] at c <;> cases c
  exact ⟨ou, g⟩
/-- a StopIteration is made and raised, while an exception is handled -/
theorem stop_hot2 {α : Type} {x1 : Addr} {Q : α → Shared → Prop} (hot : HotAt2 A x1 s.heap)
    (hE : ∀ (h' : Heap) (a : Addr) (o : Obj), (∀ b o, s.heap.get? b = some o → h'.get? b = some o) → h'.get? a = some o → o.cls = .type "StopIteration" → E (.ref a) { s with heap := h' }) :
    wpAny (model prog w) A (do let e ← newExc (.type "StopIteration") []; raiseNew e : Sem α) Q E s := by
  simp only [newExc, newTuple]
  refine wpAny_bind (wpAny_bind (wpAny_newObj_type (wpAny_bind (m := firstArgMember _ _) (wpAny_of_eq (a := Value.none) (by simp only [firstArgMember]; rfl) (wpAny_newObj_type ?_ (by size_fits)))) (by size_fits)))
  have hot1 : HotAt2 A x1 (s.heap.push { cls := .type "tuple", dict := none, data := .seq #[] }) := hot.keeps fun _ _ e => Heap.get?_push_of_some _ e
  obtain ⟨o1, vs1, e1, d1, _⟩ := hot1.2
  have up : ∀ (b : Addr) (o oN : Obj), (s.heap.push { cls := .type "tuple", dict := none, data := .seq #[] }).get? b = some o → ((s.heap.push { cls := .type "tuple", dict := none, data := .seq #[] }).push oN).get? b = some o := fun _ _ _ e => Heap.get?_push_of_some _ e
  refine raiseNew_hot2 (hot1.keeps fun b o => up b o _) (Nat.ne_of_lt (Heap.lt_size e1)) (fun o vs u e d c => ?_) (Heap.get?_push_size _ rfl) rfl (by simp; omega) (hE _ _ _ (fun b o e => ?_) (Heap.get?_update_self _ (Heap.get?_push_size _ rfl) rfl) (Obj.cls_mapFields ..))
  · obtain ⟨_, g⟩ := hot1.behind e1 d1 (same_fields (up _ _ _ e1) d1 e d ▸ c)
    exact Nat.ne_of_lt (Heap.lt_size g)
  · have e2 := Heap.get?_push_of_some { cls := .type "tuple", dict := none, data := .seq #[] } e
    exact (Heap.get?_update_other _ _ (Nat.ne_of_gt (Heap.lt_size e2))).trans (up b o _ e2)
/-- a tuple's iterator at its end: it lets go of the tuple and raises -/
theorem tupleNext_ends {it t : Addr} {i : Nat} {items : Array Value} {Q : Fin → Shared → Prop} (hit : s.heap.IsTupleIter it t i) (ht : s.heap.IsTuple t items) (hx : items[i]? = none)
    (h : wpAny (model prog w) A (do let e ← newExc (.type "StopIteration") []; raiseNew e : Sem Fin) Q E { s with heap := s.heap.update it (Obj.mapFields (·.setIfInBounds 0 Value.none)) }) :
    wpAny (model prog w) A (Builtin.«tuple_iterator.__next__» ⟨[.ref it], []⟩) Q E s := by
  obtain ⟨o, ho, _, hd⟩ := hit
  obtain ⟨ol, hol, _, _, hdl⟩ := ht
  refine wpAny_bind (m := field (.ref it) 0) (wpAny_field ho hd (x := .ref t) rfl ?_)
  simp
  refine wpAny_bind (m := field (.ref it) 1) (wpAny_field ho hd (x := .int i 0) rfl (wpAny_bind (m := seqItems? (.ref t)) (wpAny_seqItems hol hdl ?_)))
  simp only [Int.toNat_natCast, hx]
  exact wpAny_bind (wpAny_rule (wpAny_bind (wpAny_setField ho hd (by simp) h)))
theorem pyNext_tuple_end_hot2 {it t x1 : Addr} {i : Nat} {items : Array Value} {Q : Option Value → Shared → Prop} (hot : HotAt2 A x1 s.heap) (hit : s.heap.IsTupleIter it t i) (ht : s.heap.IsTuple t items) (hx : items[i]? = none)
    (nit : x1 ≠ it) (nit2 : ∀ (o : Obj) (vs : Array Value) (u : Addr), s.heap.get? x1 = some o → o.data = .fields vs → vs[2]? = some (.ref u) → u ≠ it)
    (hQ : ∀ h', Heap.ExtBut it s.heap h' → Q none { s with heap := h' }) : wpAny (model prog w) A (pyNext (.ref it)) Q E s := by
  have off : ∀ b o, b ≠ it → s.heap.get? b = some o → (s.heap.update it (Obj.mapFields (·.setIfInBounds 0 Value.none))).get? b = some o := fun b o n e => (Heap.get?_update_other _ _ n.symm).trans e
  have hot' : HotAt2 A.in1 x1 (s.heap.update it (Obj.mapFields (·.setIfInBounds 0 Value.none))) := by
    obtain ⟨hh, o, vs, e, d, c⟩ := hot
    exact ⟨hh, o, vs, off _ _ nit e, d, c.imp_right fun ⟨u, ou, us, c1, g, r⟩ => ⟨u, ou, us, c1, off _ _ (nit2 o vs u e d c1) g, r⟩⟩
  have ends : wpAny (model prog w) A (call (.builtin "tuple_iterator.__next__") [.ref it]) (fun _ _ => False) (fun e s' => ∃ h' a o, Heap.ExtBut it s.heap h' ∧ s' = { s with heap := h' } ∧ e = .ref a ∧ h'.get? a = some o ∧ o.cls = .type "StopIteration") s :=
    wpAny_call_entry F.slot_tuple_iterator_next hit.typeIs F.entry_tuple_iterator_next (tupleNext_ends hit ht hx (stop_hot2 hot' fun h' a o k e c => ⟨h', a, o, fun b ob n eb => k b ob (off b ob n eb), rfl, rfl, e, c⟩)) (F.args_tuple_iterator_next_1 _)
  simp only [pyNext]
  refine wpAny_bind (wpAny_attempt (wpAny_callSpecial?_slot hit.typeIs F.slot_tuple_iterator_next (wpAny_mono ends (fun _ _ x => x.elim) ?_)))
  rintro _ _ ⟨h', a, o, ext, rfl, rfl, there, cls⟩
  exact wpAny_bind (wpAny_isInstance (T := "StopIteration") (b := true) ⟨o, there, cls⟩ isSubtype_stop (wpAny_pure (hQ h' ext)))
end
end HotK
set_option Elab.async false
set_option linter.all false
set_option maxRecDepth 100000
set_option maxHeartbeats 4000000
/-! exceptions of which it is known what stands behind them: nothing, or one exception with nothing behind it -/
namespace L2K
open PySem PySem.Spec PyProof.Rows L2
/-! ### what is known of an exception in the air, in general -/
/-- by the ground, the tracked heap, the class and the dict -/
abbrev Know := Heap → Hp → Value → Option Addr → Obj → Prop
def Air (Z : Know) (X : Cx) (W : WX) (u : Value) (s' : Shared) : Prop :=
  ∃ a B sI pins σ H cls d, u = Value.ref a ∧ Inv X pins σ H sI ∧ (∀ b o, sI.heap.get? b = some o → b ∉ frs X.stack → B.get? b = some o) ∧
    sI.heap.UpToSlots s'.heap ∧ Sky B X.stack a (Z B H cls d) X.env.locals s'.heap ∧ H a = none ∧ s'.os = sI.os ∧ AllBare s'.gens ∧ W cls d σ H
def Out (Z : Know) (P : Program) (w : World) (l : List Env) (H : Hp) (s : Shared) (E : XK) (u : Value) (s' : Shared) : Prop :=
  ∃ a B H' cls d, u = Value.ref a ∧ HandSPX.FlyingZ B l a (Z B H' cls d) s'.heap ∧ HOk P w H' B ∧ UB (frs l) H H' s.heap B s'.heap ∧ H' a = none ∧ s'.os = s.os ∧ AllBare s'.gens ∧ E cls d H'
/-- the part of h that B and the places l span -/
theorem span {B h : Heap} (st : B.StaysIn h) (l : List Addr) : ∃ G : Heap, B.StaysIn G ∧ (∀ b ∈ l, G.get? b = h.get? b) ∧ G.StaysIn h ∧ ∀ b o, G.get? b = some o → b ∉ l → B.get? b = some o := by
  obtain ⟨G, yes, no⟩ := restrict h fun b => decide (b ∈ l) || (B.get? b).isSome
  have look : ∀ b o, G.get? b = some o → h.get? b = some o ∧ (b ∈ l ∨ (B.get? b).isSome = true) := by
    intro b o e
    by_cases q : b ∈ l ∨ (B.get? b).isSome = true
    · exact ⟨(yes b (by simpa using q)).symm.trans e, q⟩
    · exact nomatch (no b (by simpa [not_or] using q)).symm.trans e
  refine ⟨G, fun b o e => (yes b (by simp [e])).trans (st b o e), fun b m => yes b (by simp [m]), fun b o e => (look b o e).1, fun b o e n => ?_⟩
  obtain ⟨e', m | m⟩ := look b o e
  · exact (n m).elim
  · cases q : B.get? b with
    | none => simp [q] at m
    | some o' => exact (st b o' q).symm.trans e'
theorem hidden {h : Heap} {l : List Addr} {a : Addr} (n : h.get? a = none) : (PySem.W.hideAll h l).get? a = none :=
  Option.eq_none_iff_forall_ne_some.mpr fun _ q => nomatch n.symm.trans (PySem.W.of_hideAll _ q)
theorem sky_mono {B : Heap} {l : List Env} {a L : Addr} {Z Z' : Obj → Prop} {h : Heap} (m : ∀ o, Z o → Z' o) (x : Sky B l a Z L h) : Sky B l a Z' L h := by
  have tr : ∀ fl, HandSPX.TracedZ h B a Z fl → HandSPX.TracedZ h B a Z' fl := fun fl ⟨oe, vs, T, oT, ts, e, z, t⟩ => ⟨oe, vs, T, oT, ts, e, m _ z, t⟩
  exact x.imp (fun ⟨p, q, r, oe, vs, e, z, t⟩ => ⟨p, q, r, oe, vs, e, m _ z, t⟩) (Or.imp (fun ⟨p, q, r, t⟩ => ⟨p, q, r, tr _ t⟩) fun ⟨p, q, r, t⟩ => ⟨p, q, r, tr _ t⟩)
section
variable {Z : Know} {X : Cx} {pins : List (Addr × Obj)} {σ : L2.St} {H : Hp} {sI s s' : Shared} {B : Heap} {W : WX} {E : XK}
theorem air_of_out (I : Inv X pins σ H s) (hW : ∀ cls d H', E cls d H' → W cls d σ H') {u : Value} (c : Out Z X.prog X.w X.stack H s E u s') : Air Z X W u s' := by
  obtain ⟨a, B, H', cls, d, eu, fl, good, U, free, hos, bare, hE⟩ := c
  obtain ⟨G, inG, atF, toS, offF⟩ := span fl.1 (frs X.stack)
  have slot : ∀ b o, s.heap.get? b = some o → b ∈ frs X.stack → ∃ sl, G.get? b = some { o with slots := sl } := fun b o e m => (U.slot b o e m).imp fun _ q => (atF b m).trans q
  have J : Inv X pins σ H' { s with heap := G, gens := s'.gens, drawn := s'.drawn, toks := s'.toks } :=
    I.call (ch := []) (hok := good.kept inG) (hg := bare) (hch := by simp) (u :=
      { keep := fun b o e n m _ => inG b o (U.keep b o e n m)
        slot := fun b o e _ m _ => slot b o e m
        free := fun b o e n _ => U.free b o e n
        there := fun b o e _ => if m : b ∈ frs X.stack then (slot b o e m).elim fun _ q => ⟨_, q⟩ else (U.there b o e m).imp fun o' q => inG b o' q
        tups := U.tups
        frzs := U.frzs
        tbls := U.tbls })
  exact ⟨a, B, _, pins, σ, H', cls, d, eu, J, offF, .of_keeps toS, .inr (.inl fl), free, hos, bare, hW cls d H' hE⟩
theorem air_new {a : Addr} {oe : Obj} {vs : Array Value} {cls : Value} {d : Option Addr} (I : Inv X pins σ H sI) (k : sI.heap.StaysIn s'.heap) (new : sI.heap.get? a = none) (there : s'.heap.get? a = some oe)
    (z : Z (PySem.W.hideAll sI.heap (frs X.stack)) H cls d oe) (fields : oe.data = .fields vs) (notb : vs[1]? = some .none) (free : H a = none) (hos : s'.os = sI.os) (bare : AllBare s'.gens) (hw : W cls d σ H) : Air Z X W (.ref a) s' :=
  have low : (PySem.W.hideAll sI.heap (frs X.stack)).StaysIn s'.heap := fun b o e => k b o (PySem.W.of_hideAll _ e)
  have frames : s'.heap.FunFrames (PySem.W.hideAll sI.heap (frs X.stack)) X.stack := funFrames_none (I.stack.of_keeps fun b o e _ => ⟨o, k b o e, rfl⟩) fun _ m => PySem.W.hideAll_none _ m
  ⟨a, _, sI, pins, σ, H, cls, d, rfl, I, fun _ _ e m => PySem.W.hideAll_get _ e m, .of_keeps k, .inl ⟨low, hidden new, frames, oe, vs, there, z, fields, notb⟩, free, hos, bare, hw⟩
/-- what stood before the call and is no frame around it is no frame now -/
theorem off_stack (I : Inv X pins σ H sI) {b : Addr} {o : Obj} (e : X.s_0.heap.get? b = some o) (n : b ∉ X.fs) : b ∉ frs X.stack := fun m =>
  (List.mem_cons.mp (I.stkSub b m)).elim (fun z => absurd (Heap.lt_size e) (by rw [z]; exact Nat.not_lt.mpr I.ok.above)) n
theorem out_of_air {a : Addr} {cls : Value} {d : Option Addr} {h' : Heap} (hex : X.ex = []) (I : Inv X pins σ H sI) (nb : ∀ b o, sI.heap.get? b = some o → b ∉ frs X.stack → B.get? b = some o) (up : sI.heap.UpToSlots h')
    (fl : HandSPX.FlyingZ B X.outer a (Z B H cls d) h') (free : H a = none) (hos : s'.os = sI.os) (bare : AllBare s'.gens) (hE : E cls d H) : Out Z X.prog X.w X.outer X.H_0 X.s_0 E (.ref a) { s' with heap := h' } := by
  have none : ∀ b, b ∉ X.ex := by simp [hex]
  refine ⟨a, B, H, cls, d, rfl, fl, I.inGround nb, ?_, free, hos.trans I.os, bare, hE⟩
  exact {
    keep := fun b o e n m => nb b o (I.base.keep b o e n m (none b)) (off_stack I e m)
    slot := fun b o e m => by
      obtain ⟨_, o', e', nf⟩ := I.ok.funs.mem m
      obtain rfl : o' = o := Option.some.inj (e'.symm.trans e)
      obtain ⟨_, q⟩ := I.base.slot b o' e (I.ok.frf b m) m (none b)
      have r := up b _ q nf
      exact r
    free := fun b o e n => I.base.free b o e n (none b)
    there := fun b o e m => (I.base.there b o e (none b)).imp fun o' q => nb b o' q (off_stack I e m)
    tups := I.base.tups
    frzs := I.base.frzs
    tbls := I.base.tbls }
theorem air_leave (hZ : ∀ B H cls d, PXN.Steady1 (Z B H cls d)) (hs : X.stack = X.env :: X.outer) (hf : X.env.frame = some X.env.locals) (hex : X.ex = []) {E₁ : Value → Shared → Prop} (hW : ∀ cls d σ H, W cls d σ H → E cls d H) {u : Value} (x : Air Z X W u s') :
    wpAny (model X.prog X.w) X.A (leaving X.env u) (fun _ s'' => Out Z X.prog X.w X.outer X.H_0 X.s_0 E u s'') E₁ s' := by
  obtain ⟨a, B, sI, pins, σ, H, cls, d, eu, I, nb, up, sky, free, hos, bare, hw⟩ := x
  subst eu
  have frames : X.A.frames = some (X.env :: X.outer) := I.ok.frames.trans (congrArg some hs)
  have done : ∀ h', HandSPX.FlyingZ B X.outer a (Z B H cls d) h' → s'.heap.UpToSlots h' → Out Z X.prog X.w X.outer X.H_0 X.s_0 E (.ref a) { s' with heap := h' } :=
    fun h' fl more => out_of_air hex I nb (up.trans more) fl free hos bare (hW cls d σ H hw)
  match hs ▸ sky with
  | .inl ⟨low, new, ff, oe, vs, there, z, fields, notb⟩ => exact PXN.leaving_firstZ (hZ B H cls d) frames ff hf there low new fields notb z done
  | .inr (.inl fl) => exact PXN.leaves_onZ (hZ B H cls d) frames hf fl done
  | .inr (.inr held) => exact HandSPX.leaves_heldZ hf held done
end
/-! ### nothing behind it, or one exception with nothing behind it -/
def CtxK (B : Heap) (H : Hp) (o : Obj) : Prop := ∀ vs : Array Value, o.data = .fields vs → vs[2]? = some .none ∨ ∃ (u : Addr) (ou : Obj) (us : Array Value), vs[2]? = some (.ref u) ∧ B.get? u = some ou ∧ H u = none ∧ ou.data = .fields us ∧ us[2]? = some .none
def Zk (B : Heap) (H : Hp) (cls : Value) (d : Option Addr) : Obj → Prop := fun o => o.cls = cls ∧ o.dict = d ∧ CtxK B H o
theorem ctxK_of {B : Heap} {H : Hp} {o : Obj} (h : PXN.CtxN o) : CtxK B H o := fun vs e => .inl (h vs e)
/-- the traceback's place is another than the context's -/
theorem place2 {o : Obj} {v : Value} {vs : Array Value} (e : (o.mapFields (·.setIfInBounds 1 v)).data = .fields vs) : ∃ old, o.data = .fields old ∧ vs[2]? = old[2]? := by
  rcases o with ⟨c, d, dt, sl⟩
  cases dt with
  | fields old => exact ⟨old, rfl, by cases e; simp [Array.getElem?_setIfInBounds]⟩
  | _ => cases e
theorem Zk.steady {B : Heap} {H : Hp} {cls : Value} {d : Option Addr} : PXN.Steady1 (Zk B H cls d) := fun o v h => by
  refine ⟨PXN.steady_cls o v h.1, PXN.steady_dict o v h.2.1, fun vs e => ?_⟩
  obtain ⟨old, e0, q⟩ := place2 e
  exact q ▸ h.2.2 old e0
theorem Zk.zc {B : Heap} {H : Hp} {cls : Value} {d : Option Addr} {o : Obj} (h : Zk B H cls d o) : Zc cls d o := ⟨h.1, h.2.1⟩
theorem zk_of {B : Heap} {H : Hp} {cls : Value} {d : Option Addr} {o : Obj} (h : L2N.Zn cls d o) : Zk B H cls d o := ⟨h.1, h.2.1, ctxK_of h.2.2⟩
abbrev XE : Cx → WX → Value → Shared → Prop := Air Zk
abbrev CX : Program → World → CXT := Out Zk
def Takes (X : Cx) (W : WX) : Prop := ∀ (u : Value) (s' : Shared), Air Zk X W u s' → X.xe u s'
theorem takes0 {X : Cx} : Takes X (fun _ _ _ _ => False) := fun _ _ ⟨_, _, _, _, _, _, _, _, _, _, _, _, _, _, _, _, z⟩ => z.elim
theorem XE.of_call {X : Cx} {pins : List (Addr × Obj)} {σ : L2.St} {H : Hp} {s s' : Shared} {W : WX} {E : XK} (I : Inv X pins σ H s) (hW : ∀ cls d H', E cls d H' → W cls d σ H') {u : Value} (c : CX X.prog X.w X.stack H s E u s') : XE X W u s' := air_of_out I hW c
theorem takes_of {X : Cx} {E : XK} (hs : X.stack = X.env :: X.outer) (hf : X.env.frame = some X.env.locals) (hex : X.ex = []) {E₁ : Value → Shared → Prop}
    (hx : X.xe = fun e s' => wpAny (model X.prog X.w) X.A (leaving X.env e) (fun _ s'' => CX X.prog X.w X.outer X.H_0 X.s_0 E e s'') E₁ s') : Takes X (fun cls d _ H => E cls d H) := by
  intro u s' x
  rw [hx]
  exact air_leave (Z := Zk) (E := E) (fun _ _ _ _ => Zk.steady) hs hf hex (fun _ _ _ _ h => h) x
theorem passAt {X : Cx} {W : WX} (tk : Takes X W) (σ : L2.St) : PassesAt (L2K.CX X.prog X.w) X σ (WE W σ) := fun _ _ _ e s' I c => tk e s' (XE.of_call I (fun _ _ _ h => h) c)
/-- an exception with nothing behind it is one of these -/
theorem Takes.calm {X : Cx} {W : WX} (tk : Takes X W) : L2N.Takes X W := fun u s' ⟨a, B, sI, pins, σ, H, cls, d, e, I, nb, up, sky, rest⟩ =>
  tk u s' ⟨a, B, sI, pins, σ, H, cls, d, e, I, nb, up, sky_mono (fun _ => zk_of) sky, rest⟩
theorem ps_raise {X : Cx} {W : WX} {e : Expr} {t : L2.St → Hp → XK → Prop} {pos : Pos} (hc : X.calm = true) (tk : Takes X W) (he : L2N.PMk X e t) : PS X (.Raise (some e) none pos) (fun _ σ H => t σ H fun cls d H' => W cls d σ H') := L2N.ps_raise hc tk.calm he
open HotX L2H
/-- what «raise .. from None» in a suite makes of an error's record: x stands behind it -/
abbrev fromNone (h : Heap) (a x : Addr) : Heap := (noneFrom h a).update a (Obj.mapFields (·.setIfInBounds 2 (.ref x)))
theorem fromNone_other {h : Heap} {a x b : Addr} (n : a ≠ b) : (fromNone h a x).get? b = h.get? b := (Heap.get?_update_other _ _ n).trans (noneFrom_other n)
theorem fromNone_at {h : Heap} {a x : Addr} {oe : Obj} {vs : Array Value} (ha : h.get? a = some oe) (hd : oe.data = .fields vs) (hi : 4 < vs.size) (h1 : vs[1]? = some .none) :
    ∃ o' vs', (fromNone h a x).get? a = some o' ∧ o'.data = .fields vs' ∧ o'.cls = oe.cls ∧ o'.dict = oe.dict ∧ vs'[1]? = some .none ∧ vs'[2]? = some (.ref x) := by
  obtain ⟨a4, d4⟩ := noneFrom_at ha hd
  have d2 := Obj.data_mapFields d4 (·.setIfInBounds 2 (.ref x))
  have n2 : 2 < vs.size := Nat.lt_of_lt_of_le (by decide) (Nat.le_of_lt hi)
  refine ⟨_, _, Heap.get?_update_self _ a4 (Obj.isFreed_of_fields d2), d2, ?_, ?_, ?_, ?_⟩
  · simp only [Obj.cls_mapFields]
  · simp only [HandSPX.dict_mapFields]
  · simpa [Array.getElem?_setIfInBounds] using h1
  · simp [Array.getElem?_setIfInBounds, n2]
/-- raise X(..) from None in a suite: behind it stands what was handled -/
theorem ps_raiseHN {X : Cx} {W : WX} {e : Expr} {t : L2.St → Hp → XK → Prop} {j : Nat} {cpos pos : Pos} (hc : HotC X) (tk : Takes X W) (he : PMk5 X e t) :
    PS X (.Raise (some e) (some (.Constant .none j cpos)) pos) (fun _ σ H => t σ H fun cls d H' => W cls d σ H') := by
  constructor
  intro pins s σ H D I h
  obtain ⟨p, ⟨handled, v1, e1, c1⟩, hp⟩ := hc
  have cause : ∀ (s2 : Shared) (Q2 : Value → Shared → Prop), Q2 .none s2 → wpAny (model X.prog X.w) X.A (do let v ← eval (.Constant .none j cpos) X.env; standAt pos; pure v) Q2 X.xe s2 :=
    fun s2 Q2 q => wpAny_bind (Constant_none (wpAny_bind (wpAny_standAt (wpAny_pure q))))
  have made := he pins s σ H (fun cls d H' => W cls d σ H') I h
  refine wpAny_bind (wpAny_standAt (raise_made_hotN (x1 := p.1) cause (wpAny_bind (wpAny_mono made (fun u s1 hu => wpAny_bind (wpAny_standAt (wpAny_pure ?_))) fun _ _ x => x))))
  obtain ⟨⟨a, oe, vs, sI, H', cls, d, rfl, J, k, new, ha, z, hd, h1, free, hos, bare, r, q⟩, six⟩ := hu
  have hi := six a oe vs rfl ha hd
  obtain ⟨pThere, pFree, pL, pF, _⟩ := J.pin p (List.mem_append_left _ hp)
  have apart : ∀ {b o}, sI.heap.get? b = some o → a ≠ b := by
    intro b o e y
    simp [← y, new] at e
  have k4 : sI.heap.StaysIn (noneFrom s1.heap a) := fun b o e => (noneFrom_other (apart e)).trans (k b o e)
  have kN : sI.heap.StaysIn (fromNone s1.heap a p.1) := fun b o e => (fromNone_other (apart e)).trans (k b o e)
  obtain ⟨o', vs', there, fields, hcls, hdict, notb, behind⟩ := fromNone_at (x := p.1) ha hd hi h1
  have know : Zk (PySem.W.hideAll sI.heap (frs X.stack)) H' cls d o' := ⟨hcls.trans z.1, hdict.trans z.2.1, fun us eu => by
    obtain rfl : vs' = us := Data.fields.inj (fields.symm.trans eu)
    exact .inr ⟨p.1, p.2, v1, behind, PySem.W.hideAll_get _ pThere fun m => (List.mem_cons.mp (J.stkSub p.1 m)).elim pL pF, pFree, e1, c1⟩⟩
  exact ⟨a, oe, vs, cls, rfl, ha, z.1, hd, h1, hi, (apart pThere).symm, ⟨handled, p.2, v1, k _ _ pThere, e1, c1⟩, (r _ s1.heap (J.kIn.keeps k)).1, (r _ _ (J.kIn.keeps k4)).2,
    tk _ _ (air_new J kN new there know fields notb free hos bare q)⟩
end L2K
set_option Elab.async false
set_option linter.all false
set_option maxRecDepth 100000
set_option maxHeartbeats 4000000
namespace L2K
open PySem PySem.Spec PyProof.Rows L2 HotX L2H
/-- more of the pinned objects, fewer -/
theorem more_pins {X : Cx} {pins : List (Addr × Obj)} {σ : L2.St} {H : Hp} {s : Shared} (I : Inv X pins σ H s) {ps : List (Addr × Obj)} (h : ∀ p ∈ ps, s.heap.get? p.1 = some p.2 ∧ H p.1 = none ∧ p.1 ≠ X.env.locals ∧ p.1 ∉ X.fs ∧ ∀ v, p.2.data ≠ .cell v) : Inv X (pins ++ ps) σ H s :=
  ⟨I.ok, I.os, I.bare, I.base, I.loc, I.cell, I.free, I.freeC, fun p hp => by
    rcases List.mem_append.mp hp with q | q
    · exact I.pin p (List.mem_append_left _ q)
    · rcases List.mem_append.mp q with q | q
      · exact I.pin p (List.mem_append_right _ q)
      · exact h p q, I.hok, I.len⟩
theorem less_pins {X : Cx} {pins ps : List (Addr × Obj)} {σ : L2.St} {H : Hp} {s : Shared} (I : Inv X (pins ++ ps) σ H s) : Inv X pins σ H s :=
  ⟨I.ok, I.os, I.bare, I.base, I.loc, I.cell, I.free, I.freeC, fun p hp => I.pin p (by
    rcases List.mem_append.mp hp with q | q
    · exact List.mem_append_left _ q
    · exact List.mem_append_right _ (List.mem_append_left _ q)), I.hok, I.len⟩
/-- the context bears the handled exception and what stands behind it -/
def Hot2 (A : Around) (ps : List (Addr × Obj)) : Prop := ∃ p ∈ ps, A.handled = some (.ref p.1) ∧ ∃ vs : Array Value, p.2.data = .fields vs ∧ (vs[2]? = some .none ∨ ∃ q ∈ ps, vs[2]? = some (.ref q.1) ∧ ∃ us : Array Value, q.2.data = .fields us ∧ us[2]? = some .none)
def HotC2 (X : Cx) : Prop := Hot2 X.A X.pn
theorem HotC2.at {X : Cx} {pins : List (Addr × Obj)} {σ : L2.St} {H : Hp} {s : Shared} (c : HotC2 X) (I : Inv X pins σ H s) : ∃ p ∈ X.pn, HotK.HotAt2 X.A p.1 s.heap ∧ ∀ (o : Obj) (vs : Array Value) (u : Addr), s.heap.get? p.1 = some o → o.data = .fields vs → vs[2]? = some (.ref u) → ∃ q ∈ X.pn, u = q.1 := by
  obtain ⟨p, hp, hh, vs, e1, c1⟩ := c
  have P1 := (I.pin p (List.mem_append_left _ hp)).1
  refine ⟨p, hp, ⟨hh, p.2, vs, P1, e1, ?_⟩, fun o vs' u g1 g2 g3 => ?_⟩
  · rcases c1 with c1 | ⟨q, hq, c1, us, e2, c2⟩
    · exact .inl c1
    · exact .inr ⟨q.1, q.2, us, c1, (I.pin q (List.mem_append_left _ hq)).1, e2, c2⟩
  · rw [P1] at g1
    cases g1
    rw [e1] at g2
    cases g2
    rcases c1 with c1 | ⟨q, hq, c1, us, e2, c2⟩
    · rw [c1] at g3
      cases g3
    · rw [c1] at g3
      cases g3
      exact ⟨q, hq, rfl⟩
/-! ### a try with one clause -/
section
variable {X : Cx} {pins : List (Addr × Obj)} {D : Ends} {f : Flow} {s : Shared}
/-- the four ends of a block, another context's -/
theorem ends_to {Y : Cx} {pins' : List (Addr × Obj)} (h : SP Y pins' D f s) (t : ∀ σ H, Inv Y pins' σ H s → Inv X pins σ H s) : SP X pins D f s := by
  cases f with
  | ret u => exact h.imp fun v => Exists.imp fun σ' => Exists.imp fun H' q => ⟨t σ' H' q.1, q.2⟩
  | _ => exact h.imp fun σ' => Exists.imp fun H' q => ⟨t σ' H' q.1, q.2⟩
/-- a record is no frame -/
theorem out_of {B h : Heap} {a : Addr} {o : Obj} {vs : Array Value} {l : List Env} (ff : h.FunFrames B l) (e : h.get? a = some o) (dd : o.data = .fields vs) : a ∉ frs l := fun m => by
  obtain ⟨_, o', e', no⟩ := ff.mem m
  exact no vs (Option.some.inj (e'.symm.trans e) ▸ dd)
theorem off_frames (hf : X.env.frame = some X.env.locals) {a : Addr} (n : a ∉ frs (X.env :: X.outer)) : a ≠ X.env.locals ∧ a ∉ X.fs := by
  constructor
  · rintro rfl
    exact n (List.mem_filterMap.mpr ⟨X.env, List.mem_cons_self, hf⟩)
  · intro m
    obtain ⟨e, he, q⟩ := List.mem_filterMap.mp m
    exact n (List.mem_filterMap.mpr ⟨e, List.mem_cons_of_mem _ he, q⟩)
end
/-- an exception that the clause of X has caught, its context's heap being h: what is known of it there -/
structure Caught (Z : Know) (X : Cx) (pins : List (Addr × Obj)) (s' : Shared) (a : Addr) (σ : L2.St) (H : Hp) (cls : Value) (d : Option Addr) (B : Heap) (sI : Shared) (h : Heap) : Prop where
  before : Inv X pins σ H sI
  ground : ∀ b o, sI.heap.get? b = some o → b ∉ frs X.stack → B.get? b = some o
  grown : sI.heap.UpToSlots h
  flies : HandSPX.FlyingZ B (X.env :: X.outer) a (Z B H cls d) h
  free : H a = none
  os : s'.os = sI.os
  bare : AllBare s'.gens
section
variable {Z : Know} {X : Cx} {pins : List (Addr × Obj)} {s' : Shared} {a : Addr} {σ : L2.St} {H : Hp} {cls : Value} {d : Option Addr} {B : Heap} {sI : Shared} {h : Heap}
theorem Caught.now (k : Caught Z X pins s' a σ H cls d B sI h) : Inv X pins σ H { s' with heap := h } := k.before.landed k.ground k.flies.1 k.grown k.os k.bare
theorem Caught.more (k : Caught Z X pins s' a σ H cls d B sI h) {h' : Heap} (fl : HandSPX.FlyingZ B (X.env :: X.outer) a (Z B H cls d) h') (up : h.UpToSlots h') : Caught Z X pins s' a σ H cls d B sI h' := { k with grown := k.grown.trans up, flies := fl }
theorem Caught.there (k : Caught Z X pins s' a σ H cls d B sI h) : ∃ oe vs, h.get? a = some oe ∧ Z B H cls d oe ∧ oe.data = .fields vs := k.flies.there
theorem Caught.off (k : Caught Z X pins s' a σ H cls d B sI h) (hf : X.env.frame = some X.env.locals) : a ≠ X.env.locals ∧ a ∉ X.fs := by
  obtain ⟨_, _, e, _, dd⟩ := k.there
  exact off_frames hf (out_of k.flies.2.2.1 e dd)
/-- it goes on: no clause names it -/
theorem Caught.goes {R : Flow → Shared → Prop} (k : Caught Z X pins s' a σ H cls d B sI h) (hs : X.stack = X.env :: X.outer) (hf : X.env.frame = some X.env.locals)
    (take : ∀ s2, Sky B X.stack a (Z B H cls d) X.env.locals s2.heap → sI.heap.UpToSlots s2.heap → s2.os = sI.os → AllBare s2.gens → X.xe (.ref a) s2) :
    wpAny (model X.prog X.w) X.A (handleBy (.ref a) X.env []) R X.xe { s' with heap := h } := by
  obtain ⟨_, _, _, oe, vs, T, _, _, there, _, fields, back, _⟩ := id k.flies
  apply wpAny_handleBy_nil
  simp only [PySem.passOn, hf]
  refine wpAny_bind (wpAny_field there fields back ?_)
  simp
  exact wpAny_bind (HandSPX.setFlight_upZ k.flies fun h' held up => wpAny_throw (take _ (.inr (.inr (hs ▸ held))) (k.grown.trans up) k.os k.bare))
end
section
variable {Z : Know} {X : Cx} {x : Str} {c : Value} {nm : Option Str} {body suite : List Stmt} {b₀ : Stmt} {np pos pos' : Pos} {tb : WX → TS} {W : Ends → WX}
/-- the body of a try and its only clause: where the clause names what has come, its suite is run, else it goes on -/
theorem ps_try_one (hZ : ∀ B H cls d, PXN.Steady1 (Z B H cls d)) (hcl : ∀ {B H cls d o}, Z B H cls d o → o.cls = cls) (hs : X.stack = X.env :: X.outer) (hf : X.env.frame = some X.env.locals) (hc : Names X x c)
    (hb : ∀ (W : WX) (pn : List (Addr × Obj)) (xe : Value → Shared → Prop), (∀ u s', Air Z (X.tr pn xe) W u s' → xe u s') → PassesOwn (model X.prog X.w) X.A X.env xe → PSs (X.tr pn xe) body (tb W))
    (hw : ∀ {pins D s' a σ H cls d B sI}, X.Ok → W D cls d σ H → ∃ b, PySem.W.exmOne X.K cls c = some b ∧
      (b = true → ∀ h, Caught Z X pins s' a σ H cls d B sI h → codeAny (model X.prog X.w) (X.A.mark (some (.ref a))) (.handlers (.ref a) [.ExceptHandler none nm (b₀ :: suite) pos'] X.env) (fun r s₂ => match r with
          | .ok f => (match nm with
            | none => SP X pins D f s₂
            | some n => wpAny (model X.prog X.w) X.A (do bindName X.env n .none; unbindBehindTheSuite X.env n pos') (fun _ s₃ => SP X pins D f s₃) X.xe s₂)
          | .error y => cameBackBy (model X.prog X.w) X.A X.env X.xe y s₂) { s' with heap := h }) ∧
      (b = false → ∀ h, Caught Z X pins s' a σ H cls d B sI h → wpAny (model X.prog X.w) X.A (handleBy (.ref a) X.env []) (SP X pins D) X.xe { s' with heap := h })) :
    PS X (.Try body [.ExceptHandler (some (.Name x np)) nm (b₀ :: suite) pos'] [] [] pos) (fun D σ H => tb (W D) D σ H) := by
  constructor
  intro pins s σ H D I h
  have ok := I.ok
  have frames : X.A.frames = some (X.env :: X.outer) := ok.frames.trans (congrArg some hs)
  apply wpAny_Try_except
  refine wpAny_mono ((hb (W D) (X.pn ++ pins) _ ?_ PassesOwn.looking).run [] s σ H D (I.toTry _) h) ?_ fun _ _ z => z
  · rintro u s' ⟨a, B, sI, pins', σ', H', cls, d, rfl, J, ground, grown, sky, free, hos, bare, hW⟩
    refine L2N.Sky.land (hZ B H' cls d) frames hf (hs ▸ sky) fun h3 fl up => ?_
    have k : Caught Z X pins s' a σ' H' cls d B sI h3 := ⟨J.ofTry ok, ground, grown.trans up, fl, free, hos, bare⟩
    obtain ⟨oe, vs, there, z, fields⟩ := k.there
    obtain ⟨notL, notF⟩ := k.off hf
    obtain ⟨b, names, yes, no⟩ := hw (pins := pins) (s' := s') (a := a) (B := B) (sI := sI) ok hW
    have S := k.now.suite there fields free notL notF
    have kind : PySem.W.Looks (model X.prog X.w) h3 (typeOf (.ref a)) cls := fun _ _ _ _ kk q => wpAny_typeOf_ref (kk _ _ there) ((hcl z).symm ▸ q)
    refine wpAny_handleBy_cons (codeAny_handlers_test ?_) (by rintro ⟨⟩)
    suffices go : ∀ {Q : Value → Shared → Prop} {E : Value → Shared → Prop}, Q c { s' with heap := h3 } → wpAny (model X.prog X.w) (X.A.mark (some (.ref a))) (eval (.Name x np) X.env) Q E { s' with heap := h3 } by
      refine go ((PySem.W.exm_one k.now.kIn kind names).here ?_)
      cases b
      · exact no rfl h3 k
      · exact yes rfl h3 k
    intro Q E q
    rcases hc with ⟨gl, dbg, own | ⟨not, blt, nn⟩⟩
    · exact ld_glob (X := X.suite a _) S gl own q dbg
    · exact ld_blt (X := X.suite a _) S gl not blt q nn dbg
  · intro f s1 e
    have e' : SP X pins D f s1 := ends_to e fun _ _ J => J.ofTry ok
    cases f with
    | next => exact wpAny_execs_nil e'
    | _ => exact e'
variable {ts : Addr → Value → Option Addr → TS} {Wout : WX}
/-- try: body, except x: a suite that may raise; the body's exceptions have nothing behind them -/
theorem ps_try_onlyX (hs : X.stack = X.env :: X.outer) (hf : X.env.frame = some X.env.locals) (hc : Names X x c) (hpa : ∀ hd : Option Value, PassesOwnAt (model X.prog X.w) (X.A.mark hd) X.A X.env X.xe) (tk : Takes X Wout)
    (hb : ∀ (W : WX) (pn : List (Addr × Obj)) (xe : Value → Shared → Prop), L2N.Takes (X.tr pn xe) W → PassesOwn (model X.prog X.w) X.A X.env xe → PSs (X.tr pn xe) body (tb W))
    (hsu : ∀ (a : Addr) (oe : Obj) (cls : Value) (d : Option Addr) (pn : List (Addr × Obj)), L2N.Zn cls d oe → (∃ vs, oe.data = .fields vs) → Takes (suiteX X a ((a, oe) :: pn)) Wout → HotC (suiteX X a ((a, oe) :: pn)) →
      PSs (suiteX X a ((a, oe) :: pn)) (b₀ :: suite) (ts a cls d)) :
    PS X (.Try body [.ExceptHandler (some (.Name x np)) none (b₀ :: suite) pos'] [] [] pos) (fun D σ H => tb (wOnly X.K c ts Wout D) D σ H) := by
  refine ps_try_one (Z := fun _ _ cls d => L2N.Zn cls d) (W := wOnly X.K c ts Wout) (fun _ _ _ _ => L2N.Zn.steady) (fun z => z.1) hs hf hc hb ?_
  intro pins D s' a σ H cls d B sI ok ⟨b, names, yes, no⟩
  refine ⟨b, names, fun hb h k => codeAny_handlers_suite (HandSPX.lands_againZ k.flies fun h4 fl up => ?_), fun hb h k => k.goes hs hf fun s2 sky up hos bare => tk _ _ ?_⟩
  · have k4 := k.more fl up
    obtain ⟨oe, vs, there, z, fields⟩ := k4.there
    obtain ⟨notL, notF⟩ := k4.off hf
    have takes : Takes (suiteX X a ((a, oe) :: (X.pn ++ pins))) Wout := fun u2 s2 ⟨a2, B2, sI2, _, σ2, H2, cls2, d2, e2, I2, rest⟩ => tk u2 s2 ⟨a2, B2, sI2, pins, σ2, H2, cls2, d2, e2, unsuiteX I2 ok, rest⟩
    have run := (hsu a oe cls d (X.pn ++ pins) z ⟨vs, fields⟩ takes ⟨(a, oe), ⟨rfl, vs, fields, z.2.2 vs fields⟩, List.mem_cons_self⟩).run [] _ σ H D (suiteX_of (k4.now.suite there fields k4.free notL notF)) (yes hb a k4.free)
    exact wpAny_mono run (fun f s6 e => ends_to e fun _ _ S => unsuiteX S ok) fun e6 s6 z => hpa (some (.ref a)) e6 s6 z
  · exact ⟨a, B, sI, pins, σ, H, cls, d, rfl, k.before, k.ground, up, sky_mono (fun _ => zk_of) sky, k.free, hos, bare, no hb⟩
/-- try: body, except x: a suite that knows what stands behind the exception; nothing else may fly out -/
theorem ps_try_only2 (hs : X.stack = X.env :: X.outer) (hf : X.env.frame = some X.env.locals) (hc : Names X x c)
    (hb : ∀ (W : WX) (pn : List (Addr × Obj)) (xe : Value → Shared → Prop), Takes (X.tr pn xe) W → PassesOwn (model X.prog X.w) X.A X.env xe → PSs (X.tr pn xe) body (tb W))
    (hsu : ∀ (a : Addr) (cls : Value) (d : Option Addr) (pn : List (Addr × Obj)), HotC2 (X.suite a pn) → PSs (X.suite a pn) (b₀ :: suite) (ts a cls d)) :
    PS X (.Try body [.ExceptHandler (some (.Name x np)) none (b₀ :: suite) pos'] [] [] pos) (fun D σ H => tb (wOnly X.K c ts (fun _ _ _ _ => False) D) D σ H) := by
  refine ps_try_one (Z := Zk) (W := wOnly X.K c ts fun _ _ _ _ => False) (fun _ _ _ _ => Zk.steady) (fun z => z.1) hs hf hc hb ?_
  intro pins D s' a σ H cls d B sI ok ⟨b, names, yes, no⟩
  refine ⟨b, names, fun hb h k => codeAny_handlers_suite (HandSPX.lands_againZ k.flies fun h4 fl up => ?_), fun hb => (no hb).elim⟩
  have k4 := k.more fl up
  obtain ⟨oe, vs, there, z, fields⟩ := k4.there
  obtain ⟨notL, notF⟩ := k4.off hf
  -- what stands behind it is pinned too
  obtain ⟨ps, J, hot⟩ : ∃ ps : List (Addr × Obj), Inv X (pins ++ ps) σ H { s' with heap := h4 } ∧ Hot2 (X.A.mark (some (.ref a))) ((a, oe) :: (X.pn ++ (pins ++ ps))) := by
    rcases z.2.2 vs fields with c1 | ⟨u, ou, us, c1, g1, g2, g3, g4⟩
    · exact ⟨[], by simpa using k4.now, (a, oe), List.mem_cons_self, rfl, vs, fields, .inl c1⟩
    · obtain ⟨nL, nF⟩ := off_frames (X := X) hf fun m => nomatch (k4.flies.2.2.1.mem m).1.symm.trans g1
      refine ⟨[(u, ou)], more_pins k4.now fun p hp => ?_, (a, oe), List.mem_cons_self, rfl, vs, fields, .inr ⟨(u, ou), by simp, c1, us, g3, g4⟩⟩
      obtain rfl := List.mem_singleton.mp hp
      exact ⟨k4.flies.1 u ou g1, g2, nL, nF, fun v y => nomatch g3.symm.trans y⟩
  have run := (hsu a cls d _ hot).run [] _ σ H D (J.suite there fields k4.free notL notF) (yes hb a k4.free)
  exact wpAny_mono run (fun f s6 e => ends_to e fun _ _ S => less_pins (S.unsuite ok)) fun _ _ y => y.elim
end
end L2K
set_option Elab.async false
set_option linter.all false
set_option maxRecDepth 100000
set_option maxHeartbeats 4000000
namespace Sl
open PySem PySem.Spec PyProof.Rows L2 SlM
theorem bin_jump (o : Sf47.Bin) : jumpN.contains (binName o) = false := by
  cases o with
  | logic o b => cases o <;> cases b <;> decide +kernel
  | arith o => cases o <;> decide +kernel
  | cmp o => cases o <;> decide +kernel
theorem jump_yes (k : Sf47.Jump) (l : Bytes) : jumpN.contains (insKV (.jmp k l)).1 = true := by
  cases k
  · exact (by decide +kernel : jumpN.contains (Sf47.txt "JMP") = true)
  · exact (by decide +kernel : jumpN.contains (Sf47.txt "JMPC") = true)
  · exact (by decide +kernel : jumpN.contains (Sf47.txt "JMPCN") = true)
theorem jump_no (i : Sf47.Insn) (h : ∀ k l, i ≠ .jmp k l) : jumpN.contains (insKV i).1 = false := by
  cases i with
  | bin o x => exact bin_jump o
  | open_ o x => exact bin_jump o
  | ld x => exact (by decide +kernel : jumpN.contains (Sf47.txt "LD") = false)
  | ldn b => exact (by decide +kernel : jumpN.contains (Sf47.txt "LDN") = false)
  | st n b =>
    cases n
    · exact (by decide +kernel : jumpN.contains (Sf47.txt "ST") = false)
    · exact (by decide +kernel : jumpN.contains (Sf47.txt "STN") = false)
  | stw n => exact (by decide +kernel : jumpN.contains (Sf47.txt "ST") = false)
  | put n b =>
    cases n
    · exact (by decide +kernel : jumpN.contains (Sf47.txt "R") = false)
    · exact (by decide +kernel : jumpN.contains (Sf47.txt "S") = false)
  | not => exact (by decide +kernel : jumpN.contains (Sf47.txt "NOT") = false)
  | close => exact (by decide +kernel : jumpN.contains (Sf47.txt ")") = false)
  | jmp k l => exact absurd rfl (h k l)
  | ret c =>
    cases c
    · exact (by decide +kernel : jumpN.contains (Sf47.txt "RET") = false)
    · exact (by decide +kernel : jumpN.contains (Sf47.txt "RETC") = false)
  | timer k t w =>
    cases k
    · exact (by decide +kernel : jumpN.contains (Sf47.txt "TON") = false)
    · exact (by decide +kernel : jumpN.contains (Sf47.txt "TOF") = false)
    · exact (by decide +kernel : jumpN.contains (Sf47.txt "TP") = false)
  | ctu c w => exact (by decide +kernel : jumpN.contains (Sf47.txt "CTU") = false)
  | rc c => exact (by decide +kernel : jumpN.contains (Sf47.txt "RC") = false)
  | edge u m =>
    cases u
    · exact (by decide +kernel : jumpN.contains (Sf47.txt "DOWN") = false)
    · exact (by decide +kernel : jumpN.contains (Sf47.txt "UP") = false)
theorem walk_enumK {K : PySem.W.Frag} {a : Addr} {k : Int} {xs : List V} : Walk (IteK K a k) xs.length (fun H => SqL K H a xs) (fun i H v H' => ∃ T x, v = .ref T ∧ H T = none ∧ H' = upd H T (.tup [.int (k + (i : Nat)), x]) ∧ xs[i]? = some x) := by
  refine ⟨fun i _ hi q => ⟨xs, xs[i], q, by simp [hi]⟩, fun _ q => ⟨xs, q, rfl⟩, fun i H v H' _ q y => ?_⟩
  obtain ⟨T, x, h1, h2, h3, h4⟩ := y
  exact ⟨T, x, h1, h2, h3, h4 xs q⟩
section
variable {P : Program} {w : World} {K : PySem.W.Frag} {mg : Str → Option Value} {base : Heap} {CU CN fN CL fI : Addr} {fdI : FuncData}
theorem okC {x qual : Str} {st : Stmt} {f : Addr} {fd : FuncData} {N ps : List Str} {k : Nat} {sp : Sp} (F : Fun K x qual st f fd) (S : FnScope N ps (defScope st)) (len : ∀ vs H Q E, sp vs H Q E → vs.length = ps.length) (hbody : Walked (L2.CX P w) P w K mg base N qual st f k sp) : FnOk P w K mg base (L2.CX P w) (k + 1) f fd ps sp := ok_def F S len hbody
theorem okK {x qual : Str} {st : Stmt} {f : Addr} {fd : FuncData} {N ps : List Str} {k : Nat} {sp : Sp} (F : Fun K x qual st f fd) (S : FnScope N ps (defScope st)) (len : ∀ vs H Q E, sp vs H Q E → vs.length = ps.length) (hbody : Walked (L2K.CX P w) P w K mg base N qual st f k sp) : FnOk P w K mg base (L2K.CX P w) (k + 1) f fd ps sp := ok_def F S len hbody
theorem pmkN_nap {X : Cx} {C fI : Addr} {a : Expr} {ta : TA} {p pos : Pos} (T : PySem.NapX.NapTxt X.K X.mg C fI) (hr : Room 1 X.A) (ha : PA X [a] ta) (hg : Gl X "NotAProgram" := by rfl)
    (he : starEach (a :: []) X.env = (false, eval a X.env) :: starEach [] X.env := by rfl) (hpl : (backTo pos (starEach [] X.env)).any (·.1) = false := by rfl) :
    L2N.PMk X (.Call (.Name "NotAProgram" p) [a] [] pos) (tMkNap C ta) := (pmk5_nap T (by have := hr.dp; omega) ha hg he hpl).pmk
/-- NotAProgram(n) goes out -/
def Out (CN : Addr) (E : XK) (H : Hp) (n : Int) : Prop := ∀ H' d, Same H H' → H d = none → H' d = some (.xd [(("line" : Str), .int n)]) → E (.ref CN) (some d) H'
/-! ### refuse_wrong_labels -/
def spRefuse (CL CN : Addr) : Sp := fun vs H Q E => ∃ (a : Addr) (pls : List PLine), vs = [.ref a] ∧ LinesAt CL H a pls ∧ pls.length ≤ 70000 ∧
  (∀ i, i < pls.length → Bad pls i → (∀ j, j < i → ¬ Bad pls j) → Out CN E H ((i + 1 : Nat) : Int)) ∧ ((∀ j, j < pls.length → ¬ Bad pls j) → ∀ H', Same H H' → Q .non H')
theorem sc_ref : FnScope ["lines", "labels", "before", "number", "line"] ["lines"] (defScope s_refuse_wrong_labels) := ⟨rfl, rfl, rfl, by decide +kernel, rfl, by decide +kernel, by decide +kernel⟩
theorem ok_refuse {f : Addr} {fd : FuncData} (F : Fun K "refuse_wrong_labels" "refuse_wrong_labels" s_refuse_wrong_labels f fd) (NT : PySem.NapX.NapTxt K mg CN fN) (T : LnTxt K mg CL fI fdI) (he : mg "enumerate" = none) (C : TupC K mg "JUMPS" jumpN)
    (L : Df P w K mg base CX0 1 "labels_of" ["lines"] (spLabels CL)) : FnOk P w K mg base (L2K.CX P w) 2 f fd ["lines"] (spRefuse CL CN) := by
  obtain ⟨fL, fdL, mL, kL, bL, FL⟩ := L
  obtain ⟨uC, mC, tC⟩ := C
  obtain ⟨aC, rfl, qC⟩ := id tC
  refine okK F sc_ref (fun vs H Q E h => ?_) (fun cdv A outer s H vs Q E hr h => ?_)
  · obtain ⟨a, pls, rfl, _⟩ := h
    rfl
  · have hu := hu_of hr
    refine ⟨_, pss_cons (ps_set (i := 1) sc_ref.nd rfl (Or.inl rfl) (pe_call FL hr (by rfl) mL kL bL .nil pass0 (pa_cons (pv 0) pa_nil)))
      (pss_cons (ps_set (i := 2) sc_ref.nd rfl (Or.inl rfl) pe_dnewK)
      (pss_one (ps_for PassesOwn.leaving rfl (pi_enumK (by decide) (by decide) (by rfl) he (pa_cons (pv 0) pa_nil)) (pg_tup rfl (pgs_cons (pg_name (i := 3) sc_ref.nd rfl (Or.inl rfl)) (pgs_cons (pg_name (i := 4) sc_ref.nd rfl (Or.inl rfl)) pgs_nil)))
        (pss_cons (ps_if (pt_cmp (pc_dinN hu (pe_fld (pv 4) (by rfl)) (pv 2)) (by rfl)) (pss_one (L2K.ps_raise rfl (L2K.takes_of rfl rfl rfl rfl) (pmkN_nap NT hr (pa_cons (pv 3) pa_nil)))) pss_nil)
        (pss_cons (ps_if (pt_cmpR op_notN (pe_fld (pv 4) (by rfl)) pe_non (nomark _)) (pss_one (ps_dput hu (pv 2) (pe_fld (pv 4) (by rfl)) pe_bl rfl)) pss_nil)
        (pss_one (ps_if (PW.pt (pw_and (pt_cmpR op_in_seq (pe_fld (pv 4) (by rfl)) (pe_glob (v := .ref aC) (by rfl) mC rfl) (by rfl))
            (pw_and1 (pt_cmp (pc_dnotin hu (pe_ix ix_tup (pe_ix ix_list (pe_fld (pv 4) (by rfl)) pe_int (fun _ _ => rfl)) pe_int (fun _ _ => rfl)) (pv 1)) (by rfl)))))
          (pss_one (L2K.ps_raise rfl (L2K.takes_of rfl rfl rfl rfl) (pmkN_nap NT hr (pa_cons (pv 3) pa_nil)))) pss_nil))))))), ?_⟩
    obtain ⟨a, pls, rfl, hL, hl, kF, kS⟩ := h
    obtain ⟨rs, h1, h2⟩ := id hL
    have ln := paired_len h2
    refine ⟨_, rfl, a, pls, rfl, hL, hl, fun H1 dl kl s1 n1 e1 hkl => ?_⟩
    intro db ndb
    have hndb : H db = none := s1.free ndb
    have neD : dl ≠ db := ne_of_none e1 ndb
    refine ⟨_, rfl, a, _, rfl, (same_upd s1 hndb).seq (SqL.of h1), ?_⟩
    refine for_it (walk_enumK (xs := rs.map V.ref)) (fun i σ H' => ∃ (v1 v2 : Option V) (kvs : List (Key × V)), σ = [some (.ref a), some (.ref dl), some (.ref db), v1, v2] ∧ Same H H' ∧ H' dl = some (.dK kl) ∧ H' db = some (.dK kvs) ∧ kvs.length ≤ i ∧ Has kvs (names (pls.take i)) ∧ ∀ j, j < i → ¬ Bad pls j)
      ⟨none, none, [], rfl, same_upd s1 hndb, by rw [upd_ne neD]; exact e1, upd_same, Nat.le_refl _, has_nil, fun j hj => absurd hj (Nat.not_lt_zero j)⟩ ?_ ?_ ?_
    · rintro i σ H' _ ⟨v1, v2, kvs, rfl, sm, _⟩
      exact sm.seq (SqL.of h1)
    · rintro i x σ H2 H3 hi ⟨v1, v2, kvs, rfl, sm, el, eb, hk, hh, hg⟩ ⟨Tu, x, rfl, nT, rfl, hx⟩
      rw [List.getElem?_map] at hx
      obtain ⟨r, hr', rfl⟩ := Option.map_eq_some_iff.mp hx
      obtain ⟨pl, hp, la⟩ := paired_at h2 hr'
      have hi : i < pls.length := (List.getElem?_eq_some_iff.mp hp).1
      have en := names_at hp
      refine ⟨Tu, _, rfl, .inl (.inl upd_same), rfl, _, _, rfl, _, _, rfl, rfl, ?_⟩
      have nTH : H Tu = none := sm.free nT
      have sm3 : Same H (upd H2 Tu (.tup [.int (1 + (i : Nat)), .ref r])) := same_upd sm nTH
      have el3 : (upd H2 Tu (.tup [.int (1 + (i : Nat)), .ref r])) dl = some (.dK kl) := by rw [upd_ne (ne_of_none el nT)]; exact el
      have eb3 : (upd H2 Tu (.tup [.int (1 + (i : Nat)), .ref r])) db = some (.dK kvs) := by rw [upd_ne (ne_of_none eb nT)]; exact eb
      generalize upd H2 Tu (.tup [.int (1 + (i : Nat)), .ref r]) = H3 at sm3 el3 eb3 ⊢
      -- NotAProgram(number) goes out
      have out : ∀ H4, Same H H4 → Bad pls i → tMkNap CN (tCons (tVar 3) tNil) [some (.ref a), some (.ref dl), some (.ref db), some (.int (1 + (i : Nat))), some (.ref r)] H4 (fun cls d H' => E cls d H') := fun H4 s4 hb => by
        refine ⟨_, rfl, _, rfl, fun d nd => ?_⟩
        refine kF i hi hb hg _ d (same_upd s4 (s4.free nd)) (s4.free nd) ?_
        rw [upd_same, show (1 + (i : Nat) : Int) = ((i + 1 : Nat) : Int) by omega]
      -- the third test
      have third : ∀ (H4 : Hp) (kvs' : List (Key × V)) (D : Ends), (∀ σ' H', (∃ (v1 v2 : Option V) (kvs : List (Key × V)), σ' = [some (.ref a), some (.ref dl), some (.ref db), v1, v2] ∧ Same H H' ∧ H' dl = some (.dK kl) ∧ H' db = some (.dK kvs) ∧ kvs.length ≤ i + 1 ∧ Has kvs (names (pls.take (i + 1))) ∧ ∀ j, j < i + 1 → ¬ Bad pls j) → D.nx σ' H') →
          Same H H4 → H4 dl = some (.dK kl) → H4 db = some (.dK kvs') → kvs'.length ≤ i + 1 → Has kvs' (names (pls.take (i + 1))) → (∀ wd, pl.1 = some wd → wd ∉ names (pls.take i)) →
          tIfS (tAnd (tTest (tOp (rIn K false) (tFld K (tVar 4) "name") (L2.tC (V.ref aC)))) (tB (tDNotIn (tOp (L2.rIxT K) (tOp (rIxL K) (tFld K (tVar 4) "operands") (L2.tC (V.int 0))) (L2.tC (V.int 1))) (tVar 1))))
            (fun x σ H => tMkNap CN (tCons (tVar 3) tNil) σ H fun cls d H' => E cls d H') tNext D [some (.ref a), some (.ref dl), some (.ref db), some (.int (1 + (i : Nat))), some (.ref r)] H4 := by
        intro H4 kvs' D hD s4 el4 eb4 hk4 hh4 hnd
        obtain ⟨dx, p, er, ops⟩ := line_same s4 la
        have fine : ¬ Bad pls i → D.nx [some (.ref a), some (.ref dl), some (.ref db), some (.int (1 + (i : Nat))), some (.ref r)] H4 := fun hb => hD _ _ ⟨_, _, kvs', rfl, s4, el4, eb4, hk4, hh4, fun j hj => by
          by_cases c : j = i
          · rw [c]; exact hb
          · exact hg j (by omega)⟩
        refine ⟨_, rfl, r, CL, dx, _, _, rfl, er, T.cl, T.nN, lnF_name _ _ _ _, aC, _, rfl, .inr (.inr qC), ?_, flat_strs _, _, rfl, ?_⟩
        · cases pl.2 <;> rfl
        obtain ⟨lab, ins⟩ := pl
        cases ins with
        | none =>
          refine iteF (iteF (fine ?_))
          rintro ⟨x, j, e, hb⟩
          rw [hp] at e
          cases e
          rcases hb with ⟨wd, h3, h4⟩ | ⟨k, l, h3, h4⟩
          · exact hnd wd h3 h4
          · cases h3
        | some ins =>
          show (if inV (V.str (S (insKV ins).1)) (jumpN.map fun b => V.str (S b)) = true then _ else _)
          rw [in_strs]
          by_cases hj : ∃ k l, ins = .jmp k l
          · obtain ⟨k, l, rfl⟩ := hj
            rw [jump_yes]
            refine iteT ?_
            obtain ⟨os, eo, po⟩ := ops
            have po : Paired (fun r o => H4 r = some (.tup (opdV o))) os [(Sf47.txt "label", Sum.inl l)] := po
            cases po with
            | cons h0 ht =>
              rename_i r0 ro
              cases ht
              refine ⟨_, rfl, r, CL, dx, _, _, rfl, er, T.cl, T.nP, lnF_operands _ _ _ _, p, _, _, .ref r0, rfl, rfl, SqL.of eo, atI_nat (j := 0) rfl, r0, _, _, .str (S l), rfl, rfl, .inl (.inl h0), atI_nat (j := 1) rfl, ?_⟩
              refine ⟨_, rfl, dl, _, rfl, DGet.k (k := Sum.inr (S l)) el4, _, rfl, ?_⟩
              rw [hkl l]
              by_cases hin : l ∈ names pls
              · refine if_f (by rw [decide_eq_true hin]; rfl) (fine ?_)
                rintro ⟨x, j, e, hb⟩
                rw [hp] at e
                cases e
                rcases hb with ⟨wd, h3, h4⟩ | ⟨k', l', h3, h4⟩
                · exact hnd wd h3 h4
                · cases h3
                  exact h4 hin
              · exact if_t (by rw [decide_eq_false hin]; rfl) (out H4 s4 ⟨lab, _, hp, .inr ⟨k, l, rfl, hin⟩⟩)
          · rw [jump_no ins fun k l e => hj ⟨k, l, e⟩]
            refine iteF (iteF (fine ?_))
            rintro ⟨x, j, e, hb⟩
            rw [hp] at e
            cases e
            rcases hb with ⟨wd, h3, h4⟩ | ⟨k', l', h3, h4⟩
            · exact hnd wd h3 h4
            · cases h3
              exact hj ⟨_, _, rfl⟩
      obtain ⟨dx, p, er, ops⟩ := line_same sm3 la
      refine ⟨_, rfl, r, CL, dx, _, _, rfl, er, T.cl, T.nL, lnF_label _ _ _ _, _, rfl, ?_⟩
      cases hlab : pl.1 with
      | none =>
        rw [hlab, List.append_nil] at en
        rw [hlab] at er
        refine .inr ⟨db, kvs, rfl, rfl, .inl eb3, _, rfl, iteF ?_⟩
        refine ⟨_, rfl, r, CL, dx, _, _, rfl, er, T.cl, T.nL, lnF_label _ _ _ _, rfl, _, rfl, iteF ?_⟩
        exact third H3 kvs _ (fun σ' H' h => h) sm3 el3 eb3 (Nat.le_succ_of_le hk) (by rw [en]; exact hh) fun wd h => by rw [hlab] at h; cases h
      | some wd =>
        rw [hlab] at en er
        refine .inl ⟨db, _, rfl, DGet.k (k := Sum.inr (S wd)) eb3, _, rfl, ?_⟩
        rw [hh wd]
        by_cases hin : wd ∈ names (pls.take i)
        · exact if_t (decide_eq_true hin) (out H3 sm3 ⟨_, _, hp, .inl ⟨wd, hlab, hin⟩⟩)
        · refine if_f (decide_eq_false hin) ?_
          refine ⟨_, rfl, r, CL, dx, _, _, rfl, er, T.cl, T.nL, lnF_label _ _ _ _, rfl, _, rfl, iteT ?_⟩
          refine ⟨_, rfl, _, rfl, r, CL, dx, _, _, rfl, er, T.cl, T.nL, lnF_label _ _ _ _, db, _, rfl, DPut.k (k := Sum.inr (S wd)) eb3 (Nat.lt_of_le_of_lt hk (Nat.lt_of_lt_of_le hi (Nat.le_trans hl (by decide)))), ?_⟩
          refine third _ _ _ (fun σ' H' h => h) (same_upd sm3 hndb) (by rw [upd_ne neD]; exact el3) upd_same (Nat.le_trans put_len (Nat.succ_le_succ hk)) (by rw [en]; exact has_put hh wd _) fun wd' h => ?_
          rw [hlab] at h
          cases h
          exact hin
    · rintro σ H' ⟨v1, v2, kvs, rfl, sm, _, _, _, _, hg⟩
      rw [List.length_map, ln] at hg
      exact kS hg H' sm
end
end Sl
set_option Elab.async false
set_option linter.all false
set_option maxRecDepth 100000
set_option maxHeartbeats 4000000
namespace Sl
open PySem PySem.Spec PyProof.Rows L2 SlM
theorem drop_atG {α : Type} {l : List α} {i : Nat} {x : α} (h : l[i]? = some x) : l.drop i = x :: l.drop (i + 1) := by
  obtain ⟨hi, e⟩ := List.getElem?_eq_some_iff.mp h
  rw [List.drop_eq_getElem_cons hi, e]
theorem reads_step {pls : List PLine} {d : Nat} (h8 : d ≤ 8) {b : Bytes} {r : List Bytes} : Sf47.reads (pls.length + 1) (prog pls d) (b :: r) =
    match (readLine b).bind fun pl => (depthStep pl d).bind fun d' => if pl.2.isSome = true ∧ 4096 ≤ (codeOf 1 pls).length then none else some (pl, d') with
    | some (pl, d') => Sf47.reads (pls.length + 1 + 1) (prog (pls ++ [pl]) d') r
    | none => .error (pls.length + 1) := by
  show (match (prog pls d).line (pls.length + 1) b with | some q => Sf47.reads (pls.length + 1 + 1) q r | none => .error (pls.length + 1)) = _
  rw [line_is (prog pls d) _ b h8]
  cases readLine b with
  | none => rfl
  | some pl =>
    rw [Option.bind_some, Option.bind_some]
    show (match ((depthStep pl d).bind fun d' => if pl.2.isSome = true ∧ 4096 ≤ (codeOf 1 pls).length then none else some (stepTo (prog pls d) (pls.length + 1) pl d')) with | some q => _ | none => _) = _
    cases depthStep pl d with
    | none => rfl
    | some d' =>
      rw [Option.bind_some, Option.bind_some]
      by_cases c : pl.2.isSome = true ∧ 4096 ≤ (codeOf 1 pls).length
      · rw [if_pos c, if_pos c]
      · rw [if_neg c, if_neg c, step_prog]
theorem code_next (pls : List PLine) (pl : PLine) : (codeOf 1 (pls ++ [pl])).length = (codeOf 1 pls).length + (match pl.2 with | some _ => 1 | none => 0) := by
  rw [code_snoc, List.length_append]
  congr 1
  cases pl.2 <;> rfl
theorem depth_le {pl : PLine} {d d' : Nat} (h8 : d ≤ 8) (h : depthStep pl d = some d') : d' ≤ 8 := by
  obtain ⟨lab, i⟩ := pl
  cases i with
  | none =>
    rw [depth_none] at h
    split at h
    · cases h
    · cases h
      exact h8
  | some i =>
    rw [depth_some lab i d h8] at h
    split at h
    · cases h
    · split at h
      · cases h
      · split at h
        · cases h
        · cases h
          omega
section
variable {P : Program} {w : World} {K : PySem.W.Frag} {mg : Str → Option Value} {base : Heap} {CU CN fN CL fI : Addr} {fdI : FuncData}
/-! ### read_lines -/
def spRLines (K : PySem.W.Frag) (CL CN : Addr) : Sp := fun vs H Q E => ∃ (a : Addr) (rows : List Bytes), vs = [.ref a] ∧ SqL K H a (rows.map fun b => V.str (S b)) ∧ rows.length ≤ 65536 ∧ (∀ b ∈ rows, b.length ≤ 70000) ∧
  (∀ k, Sf47.reads 1 ⟨[], [], 0⟩ rows = .error k → Out CN E H (k : Nat)) ∧ (∀ pls, Sf47.reads 1 ⟨[], [], 0⟩ rows = .ok (prog pls 0) → pls.length = rows.length → ∀ H' p, Same H H' → H p = none → LinesAt CL H' p pls → Q (.ref p) H')
theorem sc_rls : FnScope ["rows", "lines", "depth", "instructions", "row", "line"] ["rows"] (defScope s_read_lines) := ⟨rfl, rfl, rfl, by decide +kernel, rfl, by decide +kernel, by decide +kernel⟩
theorem ok_rlines {f : Addr} {fd : FuncData} (F : Fun K "read_lines" "read_lines" s_read_lines f fd) (U : UnTxt K mg CU) (NT : PySem.NapX.NapTxt K mg CN fN) (hlen : mg "len" = none)
    (R : Df P w K mg base (L2N.CX P w) 8 "read_line" ["row"] (spLine CU CL)) (D : Df P w K mg base (L2N.CX P w) 1 "depth_behind" ["line", "depth"] (spDepth CU CL)) (C : Df P w K mg base (L2N.CX P w) 1 "instructions_with" ["line", "instructions"] (spCount CU CL)) :
    FnOk P w K mg base (L2K.CX P w) 9 f fd ["rows"] (spRLines K CL CN) := by
  obtain ⟨fR, fdR, mR, kR, bR, FR⟩ := R
  obtain ⟨fD, fdD, mD, kD, bD, FD⟩ := D
  obtain ⟨fC, fdC, mC, kC, bC, FC⟩ := C
  refine okK F sc_rls (fun vs H Q E h => ?_) (fun cdv A outer s H vs Q E hr h => ?_)
  · obtain ⟨a, rows, rfl, _⟩ := h
    rfl
  · have hr1 : Room 1 _ := hr.mono (by decide)
    have hdp := hr1.dp
    have hd2 : (A.deeper (envOfC "read_lines" (defScope s_read_lines) s.heap.objs.size f cdv)).depth + 1 < recursionLimit := by omega
    refine ⟨_, pss_cons (ps_set (i := 1) sc_rls.nd rfl (Or.inl rfl) (pe_lst pa_nil))
      (pss_cons (ps_set (i := 2) sc_rls.nd rfl (Or.inl rfl) pe_int)
      (pss_cons (ps_set (i := 3) sc_rls.nd rfl (Or.inl rfl) pe_int)
      (pss_cons (ps_for PassesOwn.leaving rfl (pi_list (pv 0)) (pg_name (i := 4) sc_rls.nd rfl (Or.inl rfl))
        (pss_cons (L2K.ps_try_onlyX (c := .ref CU) (ts := fun _ _ _ _ σ H => tMkNap CN (tCons (tOp (rI0 fun i j => V.int (i + j)) (tCB (fun xs H Q => ∃ p ys, xs = [V.ref p] ∧ (SqL K H p ys ∨ SqT K H p ys) ∧ Q (.int ys.length) H) (tCons (tVar 1) tNil)) (L2.tC (.int 1))) tNil) σ H fun cls d H' => E cls d H') rfl rfl ⟨by rfl, by decide, .inl U.gF⟩ (L2H.passesAt_of rfl) (L2K.takes_of rfl rfl rfl rfl)
            (fun W pn xe tkN po =>
              pss_cons (ps_set (i := 5) sc_rls.nd rfl (Or.inl rfl) (pe_callS FR hr (by rfl) mR kR bR (fun σ => L2N.passAt tkN σ) (pa_cons (pv 4) pa_nil)))
              (pss_cons (ps_set (i := 2) sc_rls.nd rfl (Or.inl rfl) (pe_callS FD hr1 (by rfl) mD kD bD (fun σ => L2N.passAt tkN σ) (pa_cons (pv 5) (pa_cons (pv 2) pa_nil))))
              (pss_one (ps_set (i := 3) sc_rls.nd rfl (Or.inl rfl) (pe_callS FC hr1 (by rfl) mC kC bC (fun σ => L2N.passAt tkN σ) (pa_cons (pv 5) (pa_cons (pv 3) pa_nil)))))))
            (fun a oe cls d pn zn hf tkS hot => pss_one (L2K.ps_raiseHN hot tkS (pmk5_nap NT hd2 (pa_cons (pe_op op_add (pe_callB call_len_seq (by rfl) hlen PySem.boot_len (pa_cons (pv 1) pa_nil)) pe_int) pa_nil)))))
        (pss_one (ps_expr (pe_bm PySem.F.plainAttrs_list PySem.F.slot_list_append PySem.F.type_list_append mt_append (pv 1) (pa_cons (pv 5) pa_nil))))))
      (pss_cons (ps_if (pt_cmpR op_gt (pv 2) pe_int (nomark _)) (pss_one (L2K.ps_raise rfl (L2K.takes_of rfl rfl rfl rfl) (pmkN_nap NT hr1 (pa_cons (pe_op op_add (pe_callB call_len_seq (by rfl) hlen PySem.boot_len (pa_cons (pv 1) pa_nil)) pe_int) pa_nil)))) pss_nil)
      (pss_one (ps_ret (pv 1))))))), ?_⟩
    obtain ⟨a, rows, rfl, hS, hl, hb, kF, kS⟩ := h
    refine ⟨by show 0 ≤ sizeLine; decide, fun p np => ?_⟩
    refine ⟨_, rfl, a, rfl, ⟨_, (same_upd (Same.refl H) np).seq hS⟩, ?_⟩
    have key : ∀ i (pls : List PLine) (rs : List Addr) (H4 : Hp) (σ : L2.St), Same H H4 → H4 p = some (.lst (rs.map V.ref)) → rs.length = i → σ[1]? = some (some (.ref p)) → Sf47.reads 1 ⟨[], [], 0⟩ rows = .error (i + 1) →
        tMkNap CN (tCons (tOp (rI0 fun i j => V.int (i + j)) (tCB (fun xs H Q => ∃ p ys, xs = [V.ref p] ∧ (SqL K H p ys ∨ SqT K H p ys) ∧ Q (.int ys.length) H) (tCons (tVar 1) tNil)) (L2.tC (.int 1))) tNil) σ H4 fun cls d H' => E cls d H' := by
      intro i pls rs H4 σ s4 e4 el ev er
      refine ⟨_, ev, p, _, rfl, .inl (SqL.of e4), _, _, rfl, rfl, _, rfl, fun d nd => ?_⟩
      refine kF _ er _ d (same_upd s4 (s4.free nd)) (s4.free nd) ?_
      rw [upd_same, List.length_map, el]
      rfl
    refine for_list (K := K) (a := a) (xs := rows.map fun b => V.str (S b)) (fun i σ H' => ∃ (v1 v2 : Option V) (pls : List PLine) (rs : List Addr) (d : Nat), σ = [some (.ref a), some (.ref p), some (.int (d : Nat)), some (.int ((codeOf 1 pls).length : Nat)), v1, v2] ∧ Same H H' ∧
        H' p = some (.lst (rs.map V.ref)) ∧ Paired (fun r pl => LineNew CL (upd H p (.lst [])) H' r pl) rs pls ∧ pls.length = i ∧ d ≤ 8 ∧ (codeOf 1 pls).length ≤ 4096 ∧ Sf47.reads 1 ⟨[], [], 0⟩ rows = Sf47.reads (i + 1) (prog pls d) (rows.drop i))
      ⟨none, none, [], [], 0, rfl, same_upd (Same.refl H) np, upd_same, .nil, rfl, Nat.zero_le _, Nat.zero_le _, rfl⟩ ?_ ?_ ?_
    · rintro i σ H' _ ⟨v1, v2, pls, rs, d, rfl, sm, _⟩
      exact sm.seq hS
    · rintro i x σ H1 hx ⟨v1, v2, pls, rs, d, rfl, sm, ep, hpr, hi, h8, h4, er⟩
      rw [List.getElem?_map] at hx
      obtain ⟨b, hbi, rfl⟩ := Option.map_eq_some_iff.mp hx
      have hlt : i < rows.length := (List.getElem?_eq_some_iff.mp hbi).1
      have hlr : rs.length = i := (paired_len hpr).trans hi
      rw [drop_atG hbi, ← hi, reads_step h8] at er
      have np1 : ∀ q, H1 q = none → q ≠ p := fun q nq z => by rw [z, ep] at nq; cases nq
      -- the clause takes it
      have caught : ∀ (H4 : Hp) (σ : L2.St) (D : Ends), Same H1 H4 → σ[1]? = some (some (.ref p)) → Sf47.reads 1 ⟨[], [], 0⟩ rows = .error (pls.length + 1) →
          wOnly K (.ref CU) (fun _ _ _ _ σ H => tMkNap CN (tCons (tOp (rI0 fun i j => V.int (i + j)) (tCB (fun xs H Q => ∃ p ys, xs = [V.ref p] ∧ (SqL K H p ys ∨ SqT K H p ys) ∧ Q (.int ys.length) H) (tCons (tVar 1) tNil)) (L2.tC (.int 1))) tNil) σ H fun cls d H' => E cls d H') (fun cls d _ H => E cls d H) D (.ref CU) none σ H4 :=
        fun H4 σ D s4 ev e => ⟨true, U.eF, fun _ x nx => key i pls rs H4 σ (sm.trans s4) (s4 _ _ ep) hlr ev (by rw [← hi]; exact e), fun z => by cases z⟩
      refine ⟨_, rfl, b, rfl, hb b (List.mem_of_getElem? hbi), fun z H4 s4 => caught H4 _ _ s4 rfl ?_, fun pl hpl H2 r s2 nr la => ?_⟩
      · rw [er, z]
        rfl
      rw [hpl, Option.bind_some] at er
      refine ⟨_, rfl, _, rfl, r, pl, d, rfl, la.here, h8, fun z => caught H2 _ _ s2 rfl ?_, fun d' hd' => ?_⟩
      · rw [er, z]
        rfl
      rw [hd', Option.bind_some] at er
      refine ⟨_, rfl, _, rfl, r, pl, (codeOf 1 pls).length, rfl, la.here, h4, fun z => caught H2 _ _ s2 rfl ?_, fun hc => ?_⟩
      · rw [er, if_pos z]
      rw [if_neg hc] at er
      refine ⟨_, rfl, .inl ⟨rfl, _, SqL.of (s2 _ _ ep)⟩, _, rfl, p, _, _, rfl, rfl, s2 _ _ ep, by rw [List.length_map, hlr]; exact Nat.lt_of_lt_of_le hlt (Nat.le_trans hl (by decide)), ?_⟩
      have hnp : ∀ q pl', LineNew CL (upd H p (.lst [])) H2 q pl' → LineNew CL (upd H p (.lst [])) (upd H2 p (.lst (rs.map V.ref ++ [V.ref r]))) q pl' := fun q pl' ⟨dx, ops, e1, ⟨os, e2, e3⟩, e4⟩ => by
        have ep2 := s2 _ _ ep
        have n1 : q ≠ p := fun z => by rw [z, ep2] at e1; cases e1
        have n2 : ops ≠ p := fun z => by rw [z, upd_same] at e4; cases e4
        refine ⟨dx, ops, by rw [upd_ne n1]; exact e1, ⟨os, by rw [upd_ne n2]; exact e2, Paired.mapP e3 fun t o e => ?_⟩, e4⟩
        have n3 : t ≠ p := fun z => by rw [z, ep2] at e; cases e
        rw [upd_ne n3]
        exact e
      have lq : LineNew CL (upd H p (.lst [])) H2 r pl := by
        obtain ⟨dx, ops, e1, e2, e3⟩ := la
        refine ⟨dx, ops, e1, e2, ?_⟩
        rw [upd_ne (np1 _ e3)]
        exact sm.free e3
      refine ⟨_, _, pls ++ [pl], rs ++ [r], d', by rw [code_next]; rfl, fun x ob e => ?_, ?_, paired_snoc (hnp _ _ lq) (Paired.mapP hpr fun q pl' ⟨dx, ops, e1, e2, e3⟩ => hnp _ _ ⟨dx, ops, s2 _ _ e1, ops_same s2 e2, e3⟩), by rw [List.length_append, List.length_singleton, hi], depth_le h8 hd', ?_, ?_⟩
      · rw [upd_ne (ne_of_none e np)]
        exact s2 _ _ (sm x ob e)
      · rw [upd_same, List.map_append]
        rfl
      · rw [code_next]
        cases q : pl.2 with
        | none => exact h4
        | some i =>
          rw [q] at hc
          have : ¬ 4096 ≤ (codeOf 1 pls).length := fun z => hc ⟨rfl, z⟩
          show (codeOf 1 pls).length + 1 ≤ 4096
          omega
      · rw [er, hi]
    · rintro σ H1 ⟨v1, v2, pls, rs, d, rfl, sm, ep, hpr, hi, h8, h4, er⟩
      rw [List.length_map] at hi er
      rw [List.drop_length] at er
      have er : Sf47.reads 1 ⟨[], [], 0⟩ rows = if d = 0 then .ok (prog pls d) else .error (rows.length + 1) := er
      refine ⟨_, rfl, _, _, rfl, rfl, _, rfl, ?_⟩
      by_cases d0 : d = 0
      · refine if_f (decide_eq_false (by omega)) ⟨_, rfl, ?_⟩
        subst d0
        rw [if_pos rfl] at er
        exact kS pls er hi H1 p sm np ⟨rs, ep, Paired.mapP hpr fun q pl' l => l.here⟩
      · refine if_t (decide_eq_true (by omega)) ?_
        rw [if_neg d0] at er
        exact key rows.length pls rs H1 _ sm ep ((paired_len hpr).trans hi) rfl er
end
end Sl
set_option Elab.async false
set_option linter.all false
set_option maxRecDepth 100000
set_option maxHeartbeats 4000000
namespace Sl
open PySem PySem.Spec PyProof.Rows L2 SlM
theorem lines_len : ∀ (b w : Bytes), (Sf47.linesOf b w).length ≤ b.length + (if w = [] then 0 else 1)
  | [], [] => Nat.le_refl _
  | [], _ :: _ => Nat.le_refl _
  | c :: r, w => by
    unfold Sf47.linesOf
    by_cases h : c = 10
    · rw [if_pos h, List.length_cons, List.length_cons]
      have := lines_len r []
      rw [if_pos rfl] at this
      omega
    · rw [if_neg h, List.length_cons]
      have := lines_len r (w ++ [c])
      rw [if_neg (by simp)] at this
      omega
theorem lines_row : ∀ (b w : Bytes) (x : Bytes), x ∈ Sf47.linesOf b w → x.length ≤ b.length + w.length
  | [], [], x, h => by cases h
  | [], c :: w, x, h => by
    rw [List.mem_singleton.mp (show x ∈ [c :: w] from h)]
    simp
  | c :: r, w, x, h => by
    unfold Sf47.linesOf at h
    by_cases q : c = 10
    · rw [if_pos q] at h
      rcases List.mem_cons.mp h with e | e
      · rw [e]; omega
      · have := lines_row r [] x e
        rw [List.length_cons]
        simp at this
        omega
    · rw [if_neg q] at h
      have := lines_row r (w ++ [c]) x h
      rw [List.length_append, List.length_singleton] at this
      rw [List.length_cons]
      omega
theorem prog_err {n : Nat} {b : Bytes} (hn : n ≤ 65536) {k : Nat} (h : Sf47.reads 1 ⟨[], [], 0⟩ (Sf47.linesOf b []) = .error k) : Sf47.program n b = .error k := by
  unfold Sf47.program
  rw [if_pos ⟨by omega, by omega⟩, h]
  rfl
theorem prog_bad {n : Nat} {b : Bytes} (hn : n ≤ 65536) {pls : List PLine} (h : Sf47.reads 1 ⟨[], [], 0⟩ (Sf47.linesOf b []) = .ok (prog pls 0)) {i : Nat} (hi : i < pls.length) (hb : Bad pls i) (hf : ∀ j, j < i → ¬ Bad pls j) : Sf47.program n b = .error (i + 1) := by
  unfold Sf47.program
  obtain ⟨x, r, e1, e2⟩ := told_bad (d := 0) hi hb hf
  rw [if_pos ⟨by omega, by omega⟩, h]
  show (match (prog pls 0).wrong with | [] => Except.ok (prog pls 0) | x :: r => .error (r.foldl min x)) = _
  rw [e1]
  show Except.error (r.foldl min x) = _
  rw [e2]
theorem prog_ok {n : Nat} {b : Bytes} (hn : n ≤ 65536) {pls : List PLine} (h : Sf47.reads 1 ⟨[], [], 0⟩ (Sf47.linesOf b []) = .ok (prog pls 0)) (hf : ∀ j, j < pls.length → ¬ Bad pls j) : Sf47.program n b = .ok (prog pls 0) := by
  unfold Sf47.program
  rw [if_pos ⟨by omega, by omega⟩, h]
  show (match (prog pls 0).wrong with | [] => Except.ok (prog pls 0) | x :: r => .error (r.foldl min x)) = _
  rw [told_none hf]
section
variable {P : Program} {w : World} {K : PySem.W.Frag} {mg : Str → Option Value} {base : Heap} {CU CN fN CL fI : Addr} {fdI : FuncData}
/-! ### read_program -/
def spProg (K : PySem.W.Frag) (CL CN : Addr) : Sp := fun vs H Q E => ∃ (a : Addr) (ns : List Int), vs = [.ref a] ∧ SqL K H a (ns.map V.int) ∧ ns.length ≤ 65536 ∧ (∀ n ∈ ns, 0 ≤ n ∧ n ≤ 255) ∧
  (∀ k, Sf47.program (ns.length : Nat) (ns.map code) = .error k → Out CN E H (k : Nat)) ∧ (∀ pls, Sf47.program (ns.length : Nat) (ns.map code) = .ok (prog pls 0) → Sf47.reads 1 ⟨[], [], 0⟩ (Sf47.linesOf (ns.map code) []) = .ok (prog pls 0) → pls.length ≤ 70000 → (∀ j, j < pls.length → ¬ Bad pls j) → ∀ H' p, Same H H' → H p = none → LinesAt CL H' p pls → Q (.ref p) H')
theorem sc_rpg : FnScope ["codes", "lines"] ["codes"] (defScope s_read_program) := ⟨rfl, rfl, rfl, by decide +kernel, rfl, by decide +kernel, by decide +kernel⟩
theorem ok_prog {f : Addr} {fd : FuncData} (F : Fun K "read_program" "read_program" s_read_program f fd) (NT : PySem.NapX.NapTxt K mg CN fN) (hlen : mg "len" = none) (cT : TxtC mg "TEXT_LIMIT" (.int 65536))
    (R : Df P w K mg base CX0 2 "rows_of" ["codes"] (spRows K)) (L : Df P w K mg base (L2K.CX P w) 9 "read_lines" ["rows"] (spRLines K CL CN)) (G : Df P w K mg base (L2K.CX P w) 2 "refuse_wrong_labels" ["lines"] (spRefuse CL CN)) :
    FnOk P w K mg base (L2K.CX P w) 10 f fd ["codes"] (spProg K CL CN) := by
  obtain ⟨fR, fdR, mR, kR, bR, FR⟩ := R
  obtain ⟨fL, fdL, mL, kL, bL, FL⟩ := L
  obtain ⟨fG, fdG, mG, kG, bG, FG⟩ := G
  obtain ⟨uT, mT, rT⟩ := cT
  refine okK F sc_rpg (fun vs H Q E h => ?_) (fun cdv A outer s H vs Q E hr h => ?_)
  · obtain ⟨a, ns, rfl, _⟩ := h
    rfl
  · have hr1 : Room 1 _ := hr.mono (by decide)
    have hr2 : Room 2 _ := hr.mono (by decide)
    refine ⟨_, pss_cons (ps_if (pt_cmpR op_gt (pe_callB call_len_seq (by rfl) hlen PySem.boot_len (pa_cons (pv 0) pa_nil)) (pe_glob (by rfl) mT rT) (nomark _))
        (pss_one (L2K.ps_raise rfl (L2K.takes_of rfl rfl rfl rfl) (pmkN_nap NT hr1 (pa_cons pe_int pa_nil)))) pss_nil)
      (pss_cons (ps_set (i := 1) sc_rpg.nd rfl (Or.inl rfl) (pe_callS FL hr (by rfl) mL kL bL (fun σ => L2K.passAt (L2K.takes_of rfl rfl rfl rfl) σ) (pa_cons (pe_call FR hr2 (by rfl) mR kR bR .nil pass0 (pa_cons (pv 0) pa_nil)) pa_nil)))
      (pss_cons (ps_expr (pe_callS FG hr2 (by rfl) mG kG bG (fun σ => L2K.passAt (L2K.takes_of rfl rfl rfl rfl) σ) (pa_cons (pv 1) pa_nil)))
      (pss_one (ps_ret (pv 1))))), ?_⟩
    obtain ⟨a, ns, rfl, hS, hl, hn, kF, kS⟩ := h
    refine ⟨_, rfl, a, _, rfl, .inl hS, _, _, rfl, rfl, _, rfl, ?_⟩
    rw [List.length_map]
    refine if_f (decide_eq_false (by omega)) ?_
    refine ⟨_, rfl, a, ns, rfl, hS, hl, hn, fun H1 q s1 nq eq => ?_⟩
    have hll : (ns.map code).length ≤ 65536 := by rw [List.length_map]; exact hl
    refine ⟨q, Sf47.linesOf (ns.map code) [], rfl, SqL.of eq, ?_, fun b hb => ?_, fun k e H2 d s2 nd ed => ?_, fun pls e hpl H2 p s2 np la => ?_⟩
    · have := lines_len (ns.map code) []
      rw [if_pos rfl] at this
      omega
    · have := lines_row (ns.map code) [] b hb
      simp at this
      omega
    · exact kF k (prog_err hl e) H2 d (s1.trans s2) (s1.free nd) ed
    · have hpn : pls.length ≤ 70000 := by
        have := lines_len (ns.map code) []
        rw [if_pos rfl] at this
        omega
      refine ⟨_, rfl, p, pls, rfl, la, hpn, fun i hi hb hf H3 d s3 nd ed => ?_, fun hf H3 s3 => ?_⟩
      · exact kF (i + 1) (prog_bad hl e hi hb hf) H3 d (s1.trans (s2.trans s3)) (s1.free (s2.free nd)) ed
      · exact ⟨_, rfl, kS pls (prog_ok hl e hf) e hpn hf H3 _ (s1.trans (s2.trans s3)) (s1.free np) (lines_same s3 la)⟩
end
end Sl
set_option Elab.async false
set_option linter.all false
set_option maxRecDepth 100000
set_option maxHeartbeats 4000000
/-! Own errors under Exception, one or two classes deep: their fields set, made, raised; an except clause with a name whose suite raises. -/
namespace PySem
namespace FltX
open PySem.W PySem.Calls PyProof.Rows PySem.HandSPX Builtin Builtin.ObjectAttr NapX
section
variable {prog : Program} {w : World} {A : Around} {E : Value → Shared → Prop} {R : Result → Shared → Prop} {hp : Heap} {g : Array GenState} {d : Drawn} {t : Nat} {os : OsState}
/-- self.name = v, a further field -/
theorem exc_more {K : W.Frag} {name : Str} {tk : Tok} {v : Value} {x C dx : Addr} {fv : Array Value} {cd : ClassData} {m0 : Str → Option Value} {nl : List Str} (X : K.In hp) (hx : hp.get? x = some { cls := .ref C, dict := some dx, data := .fields fv }) (hns : hp.Ns1 dx m0) (hw : Within m0 nl) (hz : nl.length ≤ 1000)
    (hcd : W.clsIn K C = some cd) (hm : MroOk cd.mro) (hh : cd.hasDict = true) (ha : W.findIn K (.ref C) name = some none)
    (hq : ∀ h' tk', (∀ b o, b ≠ dx → hp.get? b = some o → h'.get? b = some o) → h'.Ns1 dx (fun y => if y = name then some v else m0 y) → R (.ok (.ret .none)) ⟨h', g, d, tk', os⟩) :
    codeAny (model prog w) A (.call (.builtin "object.__setattr__") ⟨[.ref x, .str name tk, v], []⟩) R ⟨hp, g, d, t, os⟩ := by
  obtain ⟨oD, _, _, hoD, _⟩ := hns.count hw
  have looks := W.looks_clsIn (M := model prog w) X hcd
  refine exc_to X (od := some oD) ⟨hx, rfl, rfl, hoD⟩ hcd hm ha ?_
  rcases cd with ⟨nm, bs, mro, ns, qn, dicts, sn, sb, ab, col, del⟩
  obtain rfl : dicts = true := hh
  unfold storeInOwnDict ownDictForStores
  repeat
    first
    | with_reducible refine wpAny_loadPart_at hx ?_
    | with_reducible refine looks.at ?_
    | with_reducible refine PySem.OEX.store_in_old hns hw hz ?_
    | wp_step
  exact fun h' tk' named same => hq h' tk' (fun b o nb e => (same.2 b nb).trans e) named
end
end FltX
end PySem
set_option Elab.async false
set_option linter.all false
set_option maxRecDepth 100000
set_option maxHeartbeats 4000000
namespace Sl
open PySem PySem.Spec PyProof.Rows L2
open PySem.W (findIn subIn typeIn keepIn hasDictIn)
/-- what the text says of an error class of the program's own, at C -/
structure ExC (K : PySem.W.Frag) (C : Addr) : Prop where
  cls : ∃ nm q N bs bm sn sub ab col dd k0 k1 k2 k3 k5, K.lookup C = some (excClassObj nm q C N bs bm true sn sub ab col dd k0 k1 k2 k3 k5 "Exception.__new__") ∧ PySem.NapX.MroOk (.ref C :: bm) ∧ ∀ Y : String, bm.contains (.type Y) = PySem.NapX.exTail.contains (.type Y)
  sa : findIn K (.ref C) "__setattr__" = some (some (.builtin "object.__setattr__"))
  ga : findIn K (.ref C) "__getattribute__" = some (some (.builtin "BaseException.__getattribute__"))
  gg : findIn K (.ref C) "__getattr__" = some none
  exC : subIn K (.ref C) (.type "BaseException") = some true
  tyC : typeIn K (.ref C) = some (.type "type")
  kC : keepIn K (.ref C) = true
  hdC : hasDictIn K C = true
section
variable {X : Cx} {pins : List (Addr × Obj)} {σ : L2.St} {H : Hp} {s : Shared} {a C dx : Addr} {f : Str} {y : V} {u : Value} {fs : List (Str × V)} {Q : Unit → Shared → Prop} {E : Value → Shared → Prop} {A : Around}
/-- the tracked heap behind the first store: the dict is new, the error has it -/
abbrev putH (H : Hp) (a C dx : Addr) (f : Str) (y : V) : Hp := upd (upd H dx (exd dx [(f, y)])) a (exo a C (some dx))
theorem putH_other {o : HO} {b : Addr} (e : H a = some (exo a C none)) (free : H dx = none) (q : H b = some o) (n : exo a C none ≠ o) : putH H a C dx f y b = some o := by
  rw [putH, upd_ne (at_ne e q n), upd_ne (ne_of_none q free), q]
/-- self.f = y on an exception that is being made, its first field -/
theorem ex_put (T : ExC X.K C) (I : Inv X pins σ H s) (e : H a = some (exo a C none)) (hno : findIn X.K (.ref C) f = some none) (ry : RelV y u)
    (h : ∀ dx s', H dx = none → dx ≠ a → Inv X pins σ (putH H a C dx f y) s' → Q () s') : wpAny (model X.prog X.w) A (setAttr (.ref a) f u) Q E s := by
  obtain ⟨nm, q, N, bs, bm, sn, sub, ab, col, dd, k0, k1, k2, k3, k5, hC, bases, _⟩ := T.cls
  have known : PySem.W.clsIn X.K C = some ⟨nm, bs, .ref C :: bm, N, q, true, sn, sub, ab, col, false⟩ := by
    rw [PySem.W.clsIn, hC]
  rcases exo_at I.hok e with ⟨t1, there⟩
  rcases s with ⟨hp, g, d, t, os⟩
  refine PySem.W.set_plain I.kIn (ox := PySem.HandSPX.excO C t1) (od := none) ⟨there, rfl, rfl, trivial⟩ T.sa (PySem.NapX.exc_first I.kIn there known bases rfl hno ?_)
  intro h' tk' dx keeps new dne now named
  have free : H dx = none := I.hok.fresh new
  have nota : ∀ b, H b = none → b ≠ a := by
    rintro _ n rfl
    rw [n] at e
    cases e
  have un : Un X.fs [] H (putH H a C dx f y) hp h' := {
    keep := fun b o q n _ _ => keeps b o (nota b n) q
    slot := fun b o q n _ _ => ⟨o.slots, keeps b o (nota b n) q⟩
    free := fun b o q n _ => by rw [putH, upd_ne (nota b n), upd_ne (Nat.ne_of_lt (Nat.lt_of_lt_of_le (Heap.lt_size q) new)), n]
    there := fun b o q _ => if z : b = a then ⟨_, z ▸ now⟩ else ⟨o, keeps b o z q⟩
    tups := fun b xs q => putH_other e free q exo_tup
    frzs := fun b o v q => putH_other e free q exo_frz
    tbls := fun b ps q => ⟨#[], by rw [putH_other e free q exo_tbl]; simp⟩ }
  refine h dx _ free dne (I.un (t' := tk') un fun b o q => ?_)
  rcases Decidable.em (b = a) with rfl | z
  · obtain rfl : exo b C (some dx) = o := Option.some.inj ((upd_same ..).symm.trans q)
    exact exo_ok now
  have q1 : upd H dx (exd dx [(f, y)]) b = some o := (upd_ne z).symm.trans q
  rcases Decidable.em (b = dx) with rfl | z2
  · obtain rfl : exd b [(f, y)] = o := Option.some.inj ((upd_same ..).symm.trans q1)
    exact exd_ok named (relO_put (fs := []) ry fun _ => trivial)
  have q2 : H b = some o := (upd_ne z2).symm.trans q1
  exact (I.hok b o q2).stay (fun c v who w => keeps c v (who.elim (fun c1 => c1 ▸ z) fun c1 => at_ne e c1 exo_own) w) (fun c w => putH_other e free w exo_own) (fun c xs w => putH_other e free w exo_tup)
end
/-- self.f = e, the first field of an exception that is being made -/
def tPut1 (K : PySem.W.Frag) (f : Str) (to te : TE) : TS := fun D σ H => te σ H fun y H1 => to σ H1 fun x H2 => ∃ a C : Addr, x = .ref a ∧ ExC K C ∧ PySem.W.findIn K (.ref C) f = some none ∧ H2 a = some (exo a C none) ∧
  ∀ dx, H2 dx = none → dx ≠ a → D.nx σ (upd (upd H2 dx (exd dx [(f, y)])) a (exo a C (some dx)))
section
variable {X : Cx} {o e : Expr} {es : List Expr} {to te : TE} {ta : TA} {f x : Str} {p p' p1 p2 pos : Pos}
theorem ps_put1 (ho : PE X o to) (he : PE X e te) (hs : swapsWith e (some (.Attribute o f p')) pos.line X.env = pure false := by rfl) : PS X (.Assign [.Attribute o f p'] e pos) (tPut1 X.K f to te) := by
  refine ⟨fun pins s σ H D I h => ?_⟩
  refine plainObj_wpAny_Assign_Attribute (thn (he.run pins s σ H _ I h) fun v s1 ⟨y, H1, I1, r1, q1⟩ => thn (ho.run pins s1 σ H1 _ I1 q1) fun u s2 ⟨x, H2, I2, r2, a, C, ex, T, hno, ea, q⟩ => ?_) hs
  subst ex
  obtain rfl : u = Value.ref a := r2
  exact ex_put T I2 ea hno r1 fun dx s' n ne J => ⟨σ, _, J, q dx n ne⟩
/-- C.__init__(e, ..) of an own class, as the program writes it -/
theorem pe_baseInit {pl : Sem Bool} {CX : CXT} {k : Nat} {B g : Addr} {fd : FuncData} {ps : List Str} {sp : Sp} {E : XK} (hg : Gl X x) (hm : X.mg x = some (.ref B)) (rd : PySem.W.readsIn X.K B (.type "type") = true) (ga : PySem.W.specialIn X.K (.ref B) "__getattribute__" = some (some (.builtin "type.__getattribute__")))
    (fc : PySem.W.findCls X.K (.ref B) (.type "type") "__init__" = some (.val (.ref g))) (kp : PySem.W.keepIn X.K (.ref g) = true) (F : FnOk X.prog X.w X.K X.mg X.base CX k g fd ps sp) (hr : Room k X.A) (hb : Binds X.K fd ps []) (hx : Passes CX X E) (ha : PA X (e :: es) ta)
    (hdb : (x == ("__debug__" : Str)) = false := by decide)
    (hc : eval (.Call (.Attribute (.Name x p1) "__init__" p2) (e :: es) [] pos) X.env = (do let ov ← eval (.Name x p1) X.env; standAt p2.atName; let (f, first) ← holding [ov] (getMethod ov "__init__" pl); callWith pos f first (backTo pos (starEach (e :: es) X.env)) (backToKw pos (keywordEach [] X.env))) := by rfl)
    (he : starEach (e :: es) X.env = (false, eval e X.env) :: starEach es X.env := by rfl) (hpl : (backTo pos (starEach es X.env)).any (·.1) = false := by rfl) :
    PE X (.Call (.Attribute (.Name x p1) "__init__" p2) (e :: es) [] pos) (fun σ H Q => ta σ H fun vs H1 => sp vs H1 Q E) := by
  refine ⟨fun pins s σ H Q I h => ?_⟩
  refine PySem.W.methodCall_KW (ld_glob I hg hm ?_ hdb) hc
  refine PySem.W.method_cls I.kIn ga (PySem.W.cls_value I.kIn rd fc rfl ?_)
  refine PySem.W.callWith_K (h₀ := X.base) I.ok.mod.kin kp (thn (ha.run pos pins _ σ H _ (I.tok _) h) fun us s2 ⟨vs, H2, I2, r, q⟩ => ⟨I2.kIn, ?_⟩) he hpl
  exact run_fn F hr hb .nil hx I2 r (by rw [List.append_nil]; exact q)
/-- C(), C's own __init__ keeping sp -/
def tMk0 (C : Addr) (sp : Sp) : L2.St → Hp → XK → Prop := fun _ H Q => ∀ a, H a = none → sp [.ref a] (upd H a (exo a C none))
  (fun v H2 => v = .non ∧ ∃ (d : Addr) (fs : List (Str × V)), H2 a = some (exo a C (some d)) ∧ H2 d = some (exd d fs) ∧ H d = none ∧ Q (.ref C) (some d) (upd (del H2 a) d (.xd fs))) (fun _ _ _ => False)
theorem pmk_ex0 {CX : CXT} {C fI : Addr} {k : Nat} {fd : FuncData} {sp : Sp} (T : ExC X.K C) (iC : PySem.W.findIn X.K (.ref C) "__init__" = some (some (.ref fI))) (tI : PySem.W.typeIn X.K (.ref fI) = some (.type "function"))
    (F1 : FnOk X.prog X.w X.K X.mg X.base CX k fI fd ["self"] sp) (hr : Room (k + 1) X.A) (hb : Binds X.K fd ["self"] []) (hx : Passes CX X (fun _ _ _ => False)) (hg : Gl X x) (hm : X.mg x = some (.ref C)) (hdb : (x == ("__debug__" : Str)) = false := by decide) :
    L2N.PMk X (.Call (.Name x p) [] [] pos) (tMk0 C sp) := by
  rintro pins ⟨hp, g, dr, tk, os⟩ σ H Q I h
  obtain ⟨nm, q, N, bs, bm, sn, sub, ab, col, dd, k0, k1, k2, k3, k5, hC, _, kinds⟩ := T.cls
  -- the new error, and the tuple of its arguments
  let a := hp.objs.size + 1
  let hn := (hp.push (PySem.W.kdv_tup [])).push (PySem.HandSPX.excO C hp.objs.size)
  have big : hp.objs.size ≤ a := Nat.le_succ _
  have keeps : hp.StaysIn hn := fun b o e => Heap.get?_push_of_some _ (Heap.get?_push_of_some _ e)
  have there : hn.get? a = some (PySem.HandSPX.excO C hp.objs.size) := by
    show ((hp.push (PySem.W.kdv_tup [])).push (PySem.HandSPX.excO C hp.objs.size)).get? (hp.objs.size + 1) = _
    heap_get
  have J : Inv X pins σ (upd H a (exo a C none)) ⟨hn, g, dr, tk, os⟩ := I.laid (t' := tk) keeps big (exo_ok there)
  have binds : BindsTo ⟨hn, g, dr, tk, os⟩ fd ⟨[Value.ref a], []⟩ (([("self" : Str)] : List Str).zip [Value.ref a]) := by simpa using hb _ [Value.ref a] J.kIn rfl
  have init := F1.run _ X.stack _ _ ⟨[Value.ref a], []⟩ [Value.ref a] [V.ref a] _ (fun _ _ _ => False) (hr.make C [] []) (J.env0.make C [] []) binds (.cons rfl .nil) (h a (I.hok.fresh big))
  refine wpAny_Call_Name_kw (ld_glob I hg hm (PySem.W.callWith_K0 I.kIn T.kC (wpAny_call (PySem.HandSPX.call_own F.excBase_Exception kinds (I.kIn _ _ hC) (PySem.W.looks_findIn I.kIn iC) (fun self => PySem.W.bind_fn I.kIn self tI) (Nat.zero_le _) (codeAny_mono init ?_)))) hdb)
  rintro (er | fl) s' left
  · exact hx pins σ _ _ er s' J left
  · cases fl with
    | ret u =>
      rcases s' with ⟨h2, g2, d2, t2, os'⟩
      obtain ⟨v, H2, sameOs, bare, un, good, rv, rfl, d, fs, ea, ed, free, q2⟩ := left
      obtain ⟨t0, G, K, kG, ge, now, gone⟩ := mk_end0 (d2 := d2) (t2 := t2) I big keeps un good sameOs bare ea ed free
      exact ⟨rv, a, _, _, ⟨G, g2, d2, t2, os'⟩, _, .ref C, some d, rfl, K, kG, ge, now, ⟨rfl, rfl, fun vs e => by cases e; rfl⟩, rfl, rfl, gone, rfl, bare, raises_own T.exC T.tyC, q2⟩
    | _ => exact left.elim
end
/-! ### a field of an exception that a suite holds -/
def tExF (K : PySem.W.Frag) (f : Str) (a : Addr) (cls : Value) (d : Option Addr) (te : TE) : TE := fun σ H Q => te σ H fun x H1 => x = .ref a ∧ ∃ (C dd : Addr) (fs : List (Str × V)) (v : V), cls = .ref C ∧ ExC K C ∧ PySem.W.findIn K (.ref C) f = some none ∧ d = some dd ∧ H1 dd = some (.xd fs) ∧ fs.lookup f = some v ∧ Q v H1
theorem pe_exF {X : Cx} {f : Str} {a : Addr} {oe : Obj} {cls : Value} {d : Option Addr} {e : Expr} {te : TE} {pos : Pos} (hpn : (a, oe) ∈ X.pn) (hz : Zc cls d oe) (hf : ∃ vs, oe.data = .fields vs) (he : PE X e te)
    (hb : attributeBase e f X.env (eval e X.env) = eval e X.env := by rfl) : PE X (.Attribute e f pos) (tExF X.K f a cls d te) := by
  constructor
  intro pins s σ H Q I h
  refine attr_of hb (wpAny_mono (he.run pins s σ H _ I h) ?_ fun _ _ z => z)
  rintro _ s1 ⟨_, H1, I1, rx, rfl, C, dd, fs, v, rfl, T, notHere, rfl, ea, named, q⟩
  cases rx
  obtain ⟨there, _⟩ := I1.pin (a, oe) (List.mem_append_left _ hpn)
  exact exc_field I1 there hz hf ea named T.ga T.gg T.exC T.hdC notHere q
end Sl
set_option Elab.async false
set_option linter.all false
set_option maxRecDepth 100000
set_option maxHeartbeats 4000000
/-! Stopped(number, line): made while another error is handled. -/
namespace PySem
namespace StpX
open PySem.W PySem.Calls PyProof.Rows PySem.HandSPX Builtin Builtin.ObjectAttr NapX
def sA (p1 p2 p3 : Pos) : Arguments := { posonlyargs := [], args := [{ arg := "self", annotation := none, pos := p1 }, { arg := "number", annotation := none, pos := p2 }, { arg := "line", annotation := none, pos := p3 }], vararg := none, kwonlyargs := [], kw_defaults := [], kwarg := none, defaults := [] }
def sB (q1 q2 q3 q4 q5 q6 q7 q8 : Pos) : List Stmt := [.Assign [.Attribute (.Name "self" q1) "number" q2] (.Name "number" q3) q4, .Assign [.Attribute (.Name "self" q5) "line" q6] (.Name "line" q7) q8]
def sS : Scope := { kind := .function, names := [(PySem.Str.ofString "self", .local), (PySem.Str.ofString "number", .local), (PySem.Str.ofString "line", .local)], isGenerator := false, isCoroutine := false, more := [] }
/-- what the written part says of the class, at C, and of its __init__, at fI -/
structure StpTxt (K : Frag) (mg : Str → Option Value) (C fI : Addr) : Prop where
  gC : mg "Stopped" = some (.ref C)
  cls : ∃ nm q N bs sn sub ab col dd k0 k1 k2 k3 k5, K.lookup C = some (excClassObj nm q C N bs exTail true sn sub ab col dd k0 k1 k2 k3 k5 "Exception.__new__")
  sa : findIn K (.ref C) "__setattr__" = some (some (.builtin "object.__setattr__"))
  ga : findIn K (.ref C) "__getattribute__" = some (some (.builtin "BaseException.__getattribute__"))
  gg : findIn K (.ref C) "__getattr__" = some none
  noN : findIn K (.ref C) "number" = some none
  noL : findIn K (.ref C) "line" = some none
  iC : findIn K (.ref C) "__init__" = some (some (.ref fI))
  tC : typeIn K (.ref fI) = some (.type "function")
  kC : keepIn K (.ref C) = true
  exC : subIn K (.ref C) (.type "BaseException") = some true
  tyC : typeIn K (.ref C) = some (.type "type")
  hdC : hasDictIn K C = true
  te : exmOne K (.ref C) (.ref C) = some true
  fn : ∃ (oc : Value) (od : Option Addr) (doc pm : Value) (an : Option Addr) (cdv ct : Value) (osl : Array (Option Value)) (p1 p2 p3 q1 q2 q3 q4 q5 q6 q7 q8 : Pos),
    K.lookup fI = some ⟨oc, od, .func (fnOf "__init__" "Stopped.__init__" (sA p1 p2 p3) (sB q1 q2 q3 q4 q5 q6 q7 q8) sS .none .none doc pm an cdv ct), osl⟩ ∧ codeIn K cdv "Stopped.__init__" = true
theorem StpTxt.ex {K : Frag} {mg : Str → Option Value} {C fI : Addr} (T : StpTxt K mg C fI) : Sl.ExC K C := by
  obtain ⟨nm, q, N, bs, sn, sub, ab, col, dd, k0, k1, k2, k3, k5, hC⟩ := T.cls
  exact ⟨⟨nm, q, N, bs, exTail, sn, sub, ab, col, dd, k0, k1, k2, k3, k5, hC, NapX.mro_one C, fun _ => rfl⟩, T.sa, T.ga, T.gg, T.exC, T.tyC, T.kC, T.hdC⟩
/-- what its dict tells -/
def two (v1 v2 : Value) : Str → Option Value := fun y => if y = "line" then some v2 else if y = "number" then some v1 else none
structure Made (h h' : Heap) (e C d : Addr) (v1 v2 : Value) : Prop where
  keep : ∀ b o, h.get? b = some o → h'.get? b = some o
  new : h.objs.size ≤ e
  obj : ∃ t1 : Addr, h'.get? e = some { cls := .ref C, dict := some d, data := .fields #[.ref t1, .none, .none, .none, .bool false, .none] }
  dbig : h.objs.size ≤ d
  dne : d ≠ e
  ns : h'.Ns1 d (two v1 v2)
section
variable {prog : Program} {w : World} {A : Around} {E : Value → Shared → Prop} {R : Result → Shared → Prop} {s : Shared} {K : Frag} {mg : Str → Option Value} {C fI : Addr}
theorem stp_init (T : StpTxt K mg C fI) {x t0 : Addr} {v1 v2 : Value} (X : K.In s.heap) (hK : ∀ b o, K.lookup b = some o → b ≠ x) (hlim : s.heap.NoLimit) (hx : s.heap.get? x = some (excO C t0)) (hroom : A.depth < recursionLimit)
    (hq : ∀ h' tk dx, (∀ b o, b ≠ x → s.heap.get? b = some o → h'.get? b = some o) → h'.get? x = some { cls := .ref C, dict := some dx, data := .fields #[.ref t0, .none, .none, .none, .bool false, .none] } → s.heap.objs.size ≤ dx → dx ≠ x → h'.Ns1 dx (two v1 v2) → R (.ok (.ret .none)) { s with heap := h', toks := tk }) :
    codeAny (model prog w) A (.call (.ref fI) ⟨[.ref x, v1, v2], []⟩) R s := by
  obtain ⟨oc, od, doc, pm, an, cdv, ct, osl, p1, p2, p3, q1, q2, q3, q4, q5, q6, q7, q8, ho, hcd⟩ := T.fn
  obtain ⟨nm, q, N, bs, sn, sub, ab, col, dd, k0, k1, k2, k3, k5, hC⟩ := T.cls
  have hcl : clsIn K C = some { name := nm, bases := bs, mro := .ref C :: exTail, ns := N, qualname := q, hasDict := true, slotNames := sn, subclasses := sub, abstract := ab, collection := col, hasDel := false } := by unfold clsIn; rw [hC] <;> rfl
  refine Att.call_fn (binds := [("self", .ref x), ("number", v1), ("line", v2)]) X hlim ho hcd hroom (BindsTo.of_eq (by first | rfl | with_unfolding_all rfl)) (by first | rfl | decide | with_unfolding_all rfl) (fun s₁ IC => ?_) rfl rfl rfl
  obtain ⟨h₁, tk₁, rfl⟩ := IC.toInCall.same
  have k : ∀ b o, s.heap.get? b = some o → h₁.get? b = some o := IC.toInCall.keep
  have hn := IC.toInCall.ns
  have z : s.heap.objs.size < h₁.objs.size := hn.lt
  have X₁ : K.In h₁ := X.keeps k
  have hx₁ := k _ _ hx
  obtain ⟨oL, esL, epL, hoL, hdL, hsL⟩ := id hn
  have nxL : x ≠ s.heap.objs.size := Nat.ne_of_lt (Heap.lt_size hx)
  show wpAny _ _ (execs _ _) _ _ _
  refine wpAny_execs_cons (plainObj_wpAny_Assign_Attribute ?_)
  refine ldN (v := v1) hn (by first | rfl | with_unfolding_all rfl | kernel_rfl) (ldN (v := .ref x) hn (by first | rfl | with_unfolding_all rfl | kernel_rfl) ?_)
  refine set_plain X₁ (ox := excO C t0) (od := none) ⟨hx₁, rfl, rfl, trivial⟩ T.sa ?_
  refine NapX.exc_first X₁ hx₁ hcl (NapX.mro_one C) rfl T.noN (fun h₃ tk₃ dx k₃ dn dne hx₃ hn₃ => ?_)
  have hnL : h₃.Ns s.heap.objs.size _ := ⟨oL, esL, epL, k₃ _ _ (Ne.symm nxL) hoL, hdL, hsL⟩
  have X₃ : K.In h₃ := fun b o hb => k₃ b o (hK b o hb) (X₁ b o hb)
  show wpAny _ _ (execs _ _) _ _ _
  refine wpAny_execs_cons (plainObj_wpAny_Assign_Attribute ?_)
  refine ldN (v := v2) hnL (by first | rfl | with_unfolding_all rfl | kernel_rfl) (ldN (v := .ref x) hnL (by first | rfl | with_unfolding_all rfl | kernel_rfl) ?_)
  have hw : Within (fun y => if y = "number" then some v1 else none) ["number"] := Within.cons "number" v1 Within.nil
  obtain ⟨oD, esD, epD, hoD, hdD, _⟩ := hn₃.count hw
  refine set_plain X₃ (ox := { cls := .ref C, dict := some dx, data := .fields #[.ref t0, .none, .none, .none, .bool false, .none] }) (od := some oD) ⟨hx₃, rfl, rfl, hoD⟩ T.sa ?_
  refine FltX.exc_more X₃ hx₃ hn₃ hw (by decide) hcl (NapX.mro_one C) rfl T.noL (fun h₄ tk₄ k₄ hn₄ => ?_)
  show wpAny _ _ (execs _ _) _ _ _
  have nd : ∀ {b : Addr} {o : Obj}, s.heap.get? b = some o → b ≠ dx := fun {b o} e => Nat.ne_of_lt (Nat.lt_of_lt_of_le (Heap.lt_size e) (Nat.le_trans (Nat.le_of_lt z) dn))
  exact wpAny_execs_nil (hq h₄ tk₄ dx (fun b o hb e => k₄ b o (nd e) (k₃ b o hb (k b o e))) (k₄ _ _ dne.symm hx₃) (Nat.le_of_lt (Nat.lt_of_lt_of_le z dn)) dne hn₄)
theorem stp_made (T : StpTxt K mg C fI) {v1 v2 : Value} (X : K.In s.heap) (hlim : s.heap.NoLimit) (hroom : A.depth + 1 < recursionLimit)
    (hq : ∀ h' tk e d, Made s.heap h' e C d v1 v2 → R (.ok (.ret (.ref e))) { s with heap := h', toks := tk }) :
    codeAny (model prog w) A (.call (.ref C) ⟨[v1, v2], []⟩) R s := by
  obtain ⟨nm, q, N, bs, sn, sub, ab, col, dd, k0, k1, k2, k3, k5, hC⟩ := T.cls
  obtain ⟨hp, g, dr, tk, os⟩ := s
  have k : ∀ b o, hp.get? b = some o → ((hp.push (kdv_tup [v1, v2])).push (excO C hp.objs.size)).get? b = some o := fun b o e => Heap.get?_push_of_some _ (Heap.get?_push_of_some _ e)
  have hget : ((hp.push (kdv_tup [v1, v2])).push (excO C hp.objs.size)).get? (hp.objs.size + 1) = some (excO C hp.objs.size) := by heap_get
  refine call_own F.excBase_Exception (fun X => rfl) (X _ _ hC) (looks_findIn X T.iC) (fun self => bind_fn X self T.tC) (by rw [sizeLine_eq]; exact (by decide : 2 ≤ 16777216)) ?_
  refine stp_init (s := ⟨(hp.push (kdv_tup [v1, v2])).push (excO C hp.objs.size), g, dr, tk, os⟩) T (X.keeps k) (fun b o hb => Nat.ne_of_lt (Nat.lt_succ_of_lt (Heap.lt_size (X b o hb)))) (hlim.keeps k) hget ?_ fun h' tk' dx k' hx dn dne hns => ?_
  · show A.depth + 1 < recursionLimit
    exact hroom
  · have old : ∀ b o, hp.get? b = some o → h'.get? b = some o := fun b o e => k' b o (Nat.ne_of_lt (Nat.lt_succ_of_lt (Heap.lt_size e))) (k b o e)
    have z : hp.objs.size + 1 + 1 ≤ dx := by
      first
        | (simpa only [Heap.size_push] using dn)
        | exact dn
        | (have q := dn; rw [Heap.size_push, Heap.size_push] at q; exact q)
    exact ⟨rfl, hq h' tk' (hp.objs.size + 1) dx ⟨old, Nat.le_succ _, ⟨_, hx⟩, Nat.le_trans (Nat.le_trans (Nat.le_succ _) (Nat.le_succ _)) z, dne, hns⟩⟩
end
end StpX
end PySem
namespace Sl
open PySem PySem.Spec PyProof.Rows L2
def stpF (v1 v2 : V) : List (Str × V) := [("line", v2), ("number", v1)]
theorem rel_two {v1 v2 : V} {u1 u2 : Value} (r1 : RelV v1 u1) (r2 : RelV v2 u2) (f : Str) : RelO (List.lookup f (stpF v1 v2)) (PySem.StpX.two u1 u2 f) :=
  relO_put (f := "line") (fs := [("number", v1)]) r2 (fun g => relO_put (f := "number") (fs := []) (mA := fun _ => none) r1 (fun g => True.intro) g) f
section
variable {X : Cx} {C fI : Addr}
def tMkStp (C : Addr) (ta : TA) : L2.St → Hp → XK → Prop := fun σ H Q => ta σ H fun vs H1 => ∃ v1 v2, vs = [v1, v2] ∧ ∀ d, H1 d = none → Q (.ref C) (some d) (upd H1 d (.xd (stpF v1 v2)))
/-- Stopped(a, b) while an error is handled: for raise .. from None -/
theorem pmk5_stp {a b : Expr} {ta : TA} {p pos : Pos} (T : PySem.StpX.StpTxt X.K X.mg C fI) (hr : X.A.depth + 1 < recursionLimit) (ha : PA X [a, b] ta) (hg : Gl X "Stopped" := by rfl)
    (he : starEach (a :: [b]) X.env = (false, eval a X.env) :: starEach [b] X.env := by rfl) (hpl : (backTo pos (starEach [b] X.env)).any (·.1) = false := by rfl) :
    L2H.PMk5 X (.Call (.Name "Stopped" p) [a, b] [] pos) (tMkStp C ta) := by
  intro pins s σ H Q I h
  refine wpAny_Call_Name_kw (ld_glob I hg T.gC ?_)
  refine PySem.W.callWith_K (h₀ := X.base) I.ok.mod.kin T.kC (thn (ha.run pos pins s σ H _ I h) fun us s1 hh => ?_) he hpl
  obtain ⟨vs, H1, I1, r1, v1, v2, ev, q1⟩ := hh
  subst ev
  refine ⟨I1.kIn, ?_⟩
  obtain ⟨u1, u2, rfl, ra, rb⟩ := vals2 r1
  show wpAny _ _ (call (.ref C) [u1, u2]) _ _ _
  refine wpAny_call (PySem.StpX.stp_made T I1.kIn I1.nolimit hr fun h' tk' e d M => ?_)
  have hns := M.ns
  obtain ⟨G', g1, g2⟩ := restrict h' fun b => decide (b ≠ e)
  have gk : ∀ b, b ≠ e → G'.get? b = h'.get? b := fun b hb => g1 b (decide_eq_true hb)
  have ge : G'.get? e = none := g2 e (by simp)
  have old : ∀ b o, s1.heap.get? b = some o → G'.get? b = some o := fun b o q => (gk b (Nat.ne_of_lt (Nat.lt_of_lt_of_le (Heap.lt_size q) M.new))).trans (M.keep b o q)
  have ob : ObjOk X.prog X.w (upd H1 d (.xd (stpF v1 v2))) G' d (.xd (stpF v1 v2)) := ⟨_, hns.at (fun o q => (gk d M.dne).trans q), fun f => rel_two ra rb f⟩
  have J : Inv X pins σ (upd H1 d (.xd (stpF v1 v2))) { s1 with heap := G', toks := tk' } := I1.laid (t' := tk') old M.dbig ob
  obtain ⟨t1, hoe⟩ := M.obj
  have ne : (upd H1 d (.xd (stpF v1 v2))) e = none := by
    rw [upd_ne (Ne.symm M.dne)]
    exact I1.hok.fresh M.new
  refine ⟨⟨e, _, _, { s1 with heap := G', toks := tk' }, _, .ref C, some d, rfl, J, fun b o q => ?_, ge, hoe, ⟨rfl, rfl, fun vs q => by cases q; rfl⟩, rfl, rfl, ne, rfl, I1.bare, raises_own T.exC T.tyC, q1 d (I1.hok.fresh M.dbig)⟩, fun a' oe vs ea hg hd => ?_⟩
  · by_cases hb : b = e
    · have q' : G'.get? b = some o := q
      rw [hb, ge] at q'
      cases q'
    · exact (gk b hb).symm.trans q
  · cases ea
    have hg : h'.get? e = some oe := hg
    rw [hoe] at hg
    cases hg
    cases hd
    show (4 : Nat) < 6
    decide
end
end Sl
set_option Elab.async false
set_option linter.all false
set_option maxRecDepth 100000
set_option maxHeartbeats 4000000
/-! try .. except X as n: a suite that raises. -/
namespace Sl
open PySem PySem.Spec PyProof.Rows L2 HotX L2H
/-- the frame's own names changed, the slots forgotten -/
theorem inv_gone {X : Cx} {pins : List (Addr × Obj)} {σ : L2.St} {H : Hp} {s : Shared} {h' : Heap} {m' : Str → Option Value} (I : Inv X pins σ H s) (hn' : h'.Ns X.env.locals m') (hs : Heap.SameBut X.env.locals s.heap h') :
    Inv X pins (σ.map fun _ => none) H { s with heap := h' } := by
  have neL : ∀ b o, X.s_0.heap.get? b = some o → b ≠ X.env.locals := fun b o e => Nat.ne_of_lt (Nat.lt_of_lt_of_le (Heap.lt_size e) I.ok.above)
  have B : Un X.fs X.ex X.H_0 H X.s_0.heap h' := by
    refine ⟨fun b o e n hb hx => (hs.2 b (neL b o e)).trans (I.base.keep b o e n hb hx), fun b o e n hb hx => ?_, I.base.free, fun b o e hx => ?_, I.base.tups, I.base.frzs, I.base.tbls⟩
    · exact let ⟨sl, q⟩ := I.base.slot b o e n hb hx; ⟨sl, (hs.2 b (neL b o e)).trans q⟩
    · exact let ⟨o', q⟩ := I.base.there b o e hx; ⟨o', (hs.2 b (neL b o e)).trans q⟩
  refine ⟨I.ok, I.os, I.bare, B, ⟨m', hn', fun j y v e1 e2 e3 => ?_⟩, fun y c e => ?_, I.free, I.freeC, fun p hp => ?_, fun b ob e => ?_, by rw [List.length_map]; exact I.len⟩
  · rw [List.getElem?_map] at e2
    cases q : σ[j]? with
    | none => rw [q] at e2; cases e2
    | some z => rw [q] at e2; cases e2
  · exact let ⟨w', z⟩ := I.cell y c e; ⟨w', z.sameBut hs (I.cne y c e)⟩
  · exact let ⟨e, n, ne, nf, d⟩ := I.pin p hp; ⟨(hs.2 p.1 ne).trans e, n, ne, nf, d⟩
  · refine (I.hok b ob e).stay (fun c w' hc q => (hs.2 c fun z => ?_).trans q) (fun _ q => q) fun _ _ q => q
    subst z
    exact hc.elim (fun c1 => nomatch (c1 ▸ I.free).symm.trans e) fun c1 => nomatch I.free.symm.trans c1
abbrev suiteY (X : Cx) (a : Addr) (pn : List (Addr × Obj)) (xe : Value → Shared → Prop) : Cx := { X with A := X.A.mark (some (.ref a)), calm := false, pn := pn, xe := xe }
section
variable {X : Cx} {x n : Str} {c : Value} {i : Nat} {body suite : List Stmt} {b₀ : Stmt} {np pos pos' : Pos} {tb : WX → TS} {ts : Addr → Value → Option Addr → TS} {E : XK}
/-- what the suite raised goes on -/
theorem as_out {a : Addr} {q : Addr × Obj} {pins : List (Addr × Obj)} (hs : X.stack = X.env :: X.outer) (hf : X.env.frame = some X.env.locals) (hln : X.env.kindOf n = some .local) (ok : X.Ok)
    (hpa : ∀ hd : Option Value, PassesOwnAt (model X.prog X.w) (X.A.mark hd) X.A X.env X.xe) (tk : L2.Takes X (fun cls d _ H => E cls d H)) {xe : Value → Shared → Prop}
    (hxe : xe = AsSuiteRaised (model X.prog X.w) (X.A.mark (some (.ref a))) X.env n pos' (notedBy (model X.prog X.w) (X.A.mark (some (.ref a))) X.env (cameBackBy (model X.prog X.w) X.A X.env X.xe))) :
    L2.Takes (suiteY X a (q :: (X.pn ++ pins)) xe) (fun cls d _ H => E cls d H) := by
  intro u2 s2 x2
  obtain ⟨a2, B2, sI2, pn2, σ2, H2, cls2, d2, rfl, I2, nb2, up2, sky2, na2, os2, ag2, w2⟩ := x2
  have J2 : Inv X pins σ2 H2 sI2 := unsuiteX (a := a) (q := q) (pn' := pn2) (show Inv (suiteX X a (q :: (X.pn ++ pins))) pn2 σ2 H2 sI2 from I2.wish X.xe) ok
  show xe (.ref a2) s2
  rw [hxe]
  have sky2 : Sky B2 X.stack a2 (Zc cls2 d2) X.env.locals s2.heap := sky2
  have nb2 : ∀ b o, sI2.heap.get? b = some o → b ∉ frs X.stack → B2.get? b = some o := nb2
  rw [hs] at sky2 nb2
  have hfr : (X.A.mark (some (.ref a))).frames = some (X.env :: X.outer) := by
    show X.A.frames = _
    rw [ok.frames, hs]
  have hcls : (X.env.scope.kind == .class || (X.env.scope.kind == .module && X.env.locals != X.env.globals)) = false := by rw [ok.kind]; rfl
  have inL : X.env.locals ∈ frs (X.env :: X.outer) := List.mem_filterMap.mpr ⟨X.env, List.mem_cons_self, hf⟩
  obtain ⟨m, hn, _⟩ := J2.loc
  have fin : ∀ h1, HandSPX.HeldZ B2 (X.env :: X.outer) a2 (Zc cls2 d2) X.env.locals h1 → s2.heap.UpToSlots h1 →
      wpAny (model X.prog X.w) (X.A.mark (some (.ref a))) (do bindName X.env n .none; unbindBehindTheSuite X.env n pos')
        (fun _ s₂ => wpAny (model X.prog X.w) (X.A.mark (some (.ref a))) (passOn "try.except-as" (.ref a2) X.env : Sem Flow) (fun _ _ => False) (notedBy (model X.prog X.w) (X.A.mark (some (.ref a))) X.env (cameBackBy (model X.prog X.w) X.A X.env X.xe)) s₂)
        (fun y s₂ => wpAny (model X.prog X.w) (X.A.mark (some (.ref a))) (setFlight (.ref a2) none) (fun _ s₃ => notedBy (model X.prog X.w) (X.A.mark (some (.ref a))) X.env (cameBackBy (model X.prog X.w) X.A X.env X.xe) y s₃) (notedBy (model X.prog X.w) (X.A.mark (some (.ref a))) X.env (cameBackBy (model X.prog X.w) X.A X.env X.xe)) s₂) { s2 with heap := h1 } := by
    intro h1 held up1
    have hn1 : h1.Ns X.env.locals m := (hn.upToSlots up2).upToSlots up1
    refine wpAny_nameGoes_keeps hln hn1 hcls fun h2 v hn2 hs2 => ?_
    obtain ⟨oL, esL, epL, goL, hdL, _⟩ := id hn1
    have neF : ∀ {b : Addr} {o : Obj} {fs : Array Value}, h1.get? b = some o → o.data = .fields fs → b ≠ X.env.locals := fun {b o fs} e dd z => by
      rw [z, goL] at e
      cases e
      rw [hdL] at dd
      cases dd
    obtain ⟨k1, k2, k3, oe, vs, T, oT, ts2, he, hz, hd, h11, hnT, hTe, hT, hdT, h33⟩ := held
    have held2 : HandSPX.HeldZ B2 (X.env :: X.outer) a2 (Zc cls2 d2) X.env.locals h2 :=
      ⟨fun b o e => (hs2.2 b fun z => by rw [z, (k3.mem inL).1] at e; cases e).trans (k1 b o e), k2, Heap.FunFrames.sameBut hs2 hn2 k3, oe, vs, T, oT, ts2, (hs2.2 _ (neF he hd)).trans he, hz, hd, h11, hnT, hTe, (hs2.2 _ (neF hT hdT)).trans hT, hdT, h33⟩
    unfold PySem.passOn
    refine wpAny_bind (wpAny_field ((hs2.2 _ (neF he hd)).trans he) hd h11 ?_)
    rw [if_neg (show ¬ ((Value.ref T == Value.none) = true) from by simp)]
    obtain ⟨oL2, es2, ep2, goL2, hdL2, hk2⟩ := id hn2
    obtain ⟨oI, _, _, goI, _⟩ := id hn
    have gL : (sI2.heap.update X.env.locals fun _ => oL2).get? X.env.locals = some oL2 := Heap.get?_update_self (fun _ => oL2) goI (Obj.isFreed_of_dict hdL2)
    have gO : ∀ b, b ≠ X.env.locals → (sI2.heap.update X.env.locals fun _ => oL2).get? b = sI2.heap.get? b := fun b hb => Heap.get?_update_other _ _ (Ne.symm hb)
    have J3 : Inv X pins (σ2.map fun _ => none) H2 { sI2 with heap := sI2.heap.update X.env.locals fun _ => oL2 } := inv_gone J2 ⟨oL2, es2, ep2, gL, hdL2, hk2⟩ ⟨Heap.size_update _ _ _, gO⟩
    have last : wpAny (model X.prog X.w) (X.A.mark (some (.ref a))) (setFlight (.ref a2) X.env.frame) (fun _ s4 => wpAny (model X.prog X.w) (X.A.mark (some (.ref a))) (throw (.ref a2) : Sem Flow) (fun _ _ => False) (notedBy (model X.prog X.w) (X.A.mark (some (.ref a))) X.env (cameBackBy (model X.prog X.w) X.A X.env X.xe)) s4)
        (notedBy (model X.prog X.w) (X.A.mark (some (.ref a))) X.env (cameBackBy (model X.prog X.w) X.A X.env X.xe)) { s2 with heap := h2, toks := s2.toks + 1 } := by
      rw [hf]
      refine HandSPX.setFlight_onZ (s := { s2 with heap := h2, toks := s2.toks + 1 }) held2 fun h4 held4 up4 => wpAny_throw (hpa (some (.ref a)) _ _ (tk _ _ ?_))
      refine ⟨a2, B2, { sI2 with heap := sI2.heap.update X.env.locals fun _ => oL2 }, pins, _, H2, cls2, d2, rfl, J3, fun b o e hb => ?_, fun b o e hnf => ?_, .inr (.inr (by rw [hs]; exact held4)), na2, os2, ag2, w2⟩
      · rw [hs] at hb
        have z : b ≠ X.env.locals := fun q => hb (q ▸ inL)
        exact nb2 b o ((gO b z).symm.trans e) hb
      · by_cases z : b = X.env.locals
        · subst z
          have e : (sI2.heap.update X.env.locals fun _ => oL2).get? X.env.locals = some o := e
          rw [gL] at e
          cases e
          exact up4 _ _ goL2 hnf
        · have e : (sI2.heap.update X.env.locals fun _ => oL2).get? b = some o := e
          rw [gO b z] at e
          obtain ⟨sl1, e1⟩ := up2 b o e hnf
          obtain ⟨sl2, e2⟩ := up1 b _ e1 hnf
          obtain ⟨sl3, e3⟩ := up4 b _ ((hs2.2 b z).trans e2) hnf
          exact ⟨sl3, e3⟩
    first
      | exact wpAny_bind (wpAny_pure (wpAny_bind last))
      | exact wpAny_bind last
  rcases sky2 with ⟨hB, hn', hl, oe, vs, he, hz, hd, h1⟩ | fl | hh
  · exact HandSPX.look_newZ Zc.steady hfr hl hf he hB hn' hd h1 hz fin
  · exact HandSPX.looks_onZ Zc.steady hfr hf fl fin
  · exact HandSPX.againZ hf hh.2.2.2 (fin s2.heap hh (Heap.UpToSlots.refl _))
theorem ps_try_asX (hs : X.stack = X.env :: X.outer) (hf : X.env.frame = some X.env.locals) (hN : X.N.Nodup) (hi : X.N[i]? = some n) (hln : X.env.kindOf n = some .local) (hc : Names X x c) (hpa : ∀ hd : Option Value, PassesOwnAt (model X.prog X.w) (X.A.mark hd) X.A X.env X.xe)
    (tk : L2.Takes X (fun cls d _ H => E cls d H))
    (hb : ∀ (W : WX) (pn : List (Addr × Obj)) (xe : Value → Shared → Prop), L2N.Takes (X.tr pn xe) W → PassesOwn (model X.prog X.w) X.A X.env xe → PSs (X.tr pn xe) body (tb W))
    (hsu : ∀ (a : Addr) (oe : Obj) (cls : Value) (d : Option Addr) (pn : List (Addr × Obj)) (xe : Value → Shared → Prop), L2N.Zn cls d oe → (∃ vs, oe.data = .fields vs) → L2.Takes (suiteY X a ((a, oe) :: pn) xe) (fun cls d _ H => E cls d H) → HotC (suiteY X a ((a, oe) :: pn) xe) →
      PSs (suiteY X a ((a, oe) :: pn) xe) (b₀ :: suite) (ts a cls d)) :
    PS X (.Try body [.ExceptHandler (some (.Name x np)) (some n) (b₀ :: suite) pos'] [] [] pos) (fun D σ H => tb (wAs X.K c i ts (fun _ _ _ _ => False) D) D σ H) := by
  refine L2K.ps_try_one (Z := fun _ _ cls d => L2N.Zn cls d) (W := wAs X.K c i ts fun _ _ _ _ => False) (fun _ _ _ _ => L2N.Zn.steady) (fun z => z.1) hs hf hc hb ?_
  intro pins D s' a σ H cls d B sI ok ⟨b, names, yes, no⟩
  refine ⟨b, names, fun hb h k => codeAny_handlers_suite_as (HandSPX.lands_againZ k.flies fun h4 fl up => ?_), fun hb => (no hb).elim⟩
  have k4 := k.more fl up
  obtain ⟨oe, vs, there, z, fields⟩ := k4.there
  obtain ⟨notL, notF⟩ := k4.off hf
  obtain ⟨xe, hxe⟩ : ∃ xe, xe = AsSuiteRaised (model X.prog X.w) (X.A.mark (some (.ref a))) X.env n pos' (notedBy (model X.prog X.w) (X.A.mark (some (.ref a))) X.env (cameBackBy (model X.prog X.w) X.A X.env X.xe)) := ⟨_, rfl⟩
  have S := (k4.now.suite there fields k4.free notL notF).wish xe
  refine store_ok (X := suiteY X a ((a, oe) :: (X.pn ++ pins)) xe) (v := .ref a) S hN hi (.inl hln) rfl (fun s5 S5 => ?_) (.inr hln)
  have run := (hsu a oe cls d (X.pn ++ pins) xe z ⟨vs, fields⟩ (as_out hs hf hln ok hpa tk hxe) ⟨(a, oe), ⟨rfl, vs, fields, z.2.2 vs fields⟩, List.mem_cons_self⟩).run [] s5 _ H _ S5 (yes hb a k4.free)
  refine wpAny_mono run (fun f s6 e => ?_) fun e6 s6 y => (show AsSuiteRaised (model X.prog X.w) (X.A.mark (some (.ref a))) X.env n pos' _ e6 s6 from hxe ▸ (show xe e6 s6 from y))
  have back : ∀ {σ6 : L2.St} {H6 : Hp}, Inv (suiteY X a ((a, oe) :: (X.pn ++ pins)) xe) [] σ6 H6 s6 → Inv X pins σ6 H6 s6 := fun S6 => unsuiteX (a := a) (q := (a, oe)) (pn' := []) (S6.wish X.xe) ok
  cases f with
  | ret u => exact let ⟨v6, _, _, S6, r6, q6⟩ := e; gone_ok (back S6) hN hi hln fun _ J7 => ⟨v6, _, _, J7, r6, q6⟩
  | _ => exact let ⟨_, _, S6, q6⟩ := e; gone_ok (back S6) hN hi hln fun _ J7 => ⟨_, _, J7, q6⟩
end
end Sl
set_option Elab.async false
set_option linter.all false
set_option maxRecDepth 100000
set_option maxHeartbeats 4000000
namespace Sl
open PySem PySem.Spec PyProof.Rows L2
/-! ### a call of a local name that holds one of several defs; what is raised is wished for at the slots -/
/-- the def at f keeps sp, whatever it is called -/
def HeldF (P : Program) (w : World) (K : PySem.W.Frag) (mg : Str → Option Value) (base : Heap) (CX : CXT) (k : Nat) (f : Addr) (sp : Sp) : Prop :=
  ∃ (fd : FuncData) (ps : List Str), FnOk P w K mg base CX k f fd ps sp ∧ PySem.W.keepIn K (.ref f) = true ∧ Binds K fd ps []
section
variable {X : Cx} {CX : CXT} {k i : Nat} {E : L2.St → XK} {x : Str} {p pos : Pos} {e : Expr} {es : List Expr} {t : TA}
def tCallF (P : Program) (w : World) (K : PySem.W.Frag) (mg : Str → Option Value) (base : Heap) (CX : CXT) (k i : Nat) (E : L2.St → XK) (t : TA) : TE := fun σ H Q => ∃ f sp, σ[i]? = some (some (.ref f)) ∧ HeldF P w K mg base CX k f sp ∧ t σ H fun vs H1 => sp vs H1 Q (E σ)
theorem pe_callF (hr : Room k X.A) (hN : X.N[i]? = some x) (hv : Vis X.env.scope x) (hx : ∀ σ, PassesAt CX X σ (E σ)) (ha : PA X (e :: es) t) (hdb : (x == ("__debug__" : Str)) = false := by decide)
    (hcd : (x == ("__classdict__" : Str)) = false := by decide) (he : starEach (e :: es) X.env = (false, eval e X.env) :: starEach es X.env := by rfl)
    (hpl : (backTo pos (starEach es X.env)).any (·.1) = false := by rfl) : PE X (.Call (.Name x p) (e :: es) [] pos) (tCallF X.prog X.w X.K X.mg X.base CX k i E t) := by
  constructor
  rintro pins s σ H Q I ⟨f, sp, slot, ⟨fd, ps, F, kept, binds⟩, ht⟩
  have var := (pe_var (pos := p) hN hv hdb hcd).run pins s σ H (fun v H1 => v = .ref f ∧ H1 = H) I ⟨.ref f, slot, rfl, rfl⟩
  refine wpAny_Call_Name_kw (wpAny_mono var ?_ fun _ _ z => z)
  rintro _ s1 ⟨_, _, I1, r1, rfl, rfl⟩
  cases r1
  have args := ha.run pos pins s1 σ _ _ I1 ht
  exact PySem.W.callWith_K (h₀ := X.base) I.ok.mod.kin kept (wpAny_mono args (fun _ _ ⟨_, _, I2, r, q⟩ => ⟨I2.kIn, run_fnS F hr binds (hx σ) I2 r q⟩) fun _ _ z => z) he hpl
end
/-! ### T.get(k, d), T a dict of the module's top -/
section
variable {X : Cx} {β : Type} {d : Addr} {R : β → Value → Prop} {ps : List (Str × β)} {o e f : Expr} {apos cpos : Pos} {td ty tx : TE}
def tTabGet (d : Addr) (R : β → Value → Prop) (ps : List (Str × β)) (td ty tx : TE) : TE := fun σ H Q => td σ H fun x H1 => x = .ref d ∧ ty σ H1 fun y H2 => ∃ z, y = .str z ∧ tx σ H2 fun dv H3 => match ps.lookup z with
  | some b => ∀ v u, R b u → RelV v u → Q v H3
  | none => Q dv H3
theorem pe_tabGet (T : KTab X.K X.w d R ps) (hR : ∀ b u, R b u → ∃ v, RelV v u) (ho : PE X o td) (he : PE X e ty) (hf : PE X f tx) (m : M2 X o "get" apos e f cpos) : PE X (.Call (.Attribute o "get" apos) [e, f] [] cpos) (tTabGet d R ps td ty tx) := by
  refine ⟨fun pins s σ H Q I h => ?_⟩
  refine wpAny_Call_method m.base m.few m.line PySem.F.plainAttrs_dict PySem.F.slot_dict_get PySem.F.type_dict_get (thn (ho.run pins s σ H _ I h) fun u s1 ⟨x, H1, I1, rx, ex, q1⟩ => ?_)
  subst ex
  obtain rfl : u = Value.ref d := rx
  obtain ⟨es0, n0, hl0, lo0, kl0, _⟩ := tab_some T Str.empty
  have ho1 := I1.kIn _ _ hl0
  refine ⟨(PySem.W.mapOf_K (prog := X.prog) (w := X.w) I1.kIn hl0 kl0).typeIs, fun b q => by cases q; exact ⟨_, ho1, rfl⟩, ?_⟩
  rw [m.trees]
  refine Calls.callWith_builtin rfl (Calls.evalArgs_plain (Calls.spliced_cons (thn (he.run pins s1 σ H1 _ I1 q1) fun iv s2 ⟨y, H2, I2, ry, z, ey, q2⟩ =>
    Calls.spliced_cons (thn (hf.run pins s2 σ H2 _ I2 q2) fun fv s3 ⟨dv, H3, I3, rd, q3⟩ => Calls.spliced_nil ?_))))
  subst ey
  obtain ⟨t, rfl⟩ := ry
  obtain ⟨es, n, hl, lo, kl, mt⟩ := tab_find T z
  have hm := PySem.W.mapOf_K (prog := X.prog) (w := X.w) I3.kIn hl kl
  refine call_meetsIn PySem.F.slot_dict_get hm.typeIs PySem.F.entry_dict_get (PySem.F.args_dict_get_3 _ _ _) (meets_dict_get_default (strKind X.prog X.w) d (strKind_is X.prog X.w z t) lo fv) ⟨_, hm, ?_⟩
  cases q : ps.lookup z with
  | some b =>
    rw [q] at mt q3
    obtain ⟨u, e1, r⟩ := mt
    obtain ⟨v0, rv⟩ := hR b u r
    rw [e1]
    exact ⟨v0, H3, I3.tok _, rv, q3 v0 u r rv⟩
  | none =>
    rw [q] at mt q3
    have mt : findBy Value.isStrOf es z = none := mt
    rw [mt]
    exact ⟨dv, H3, I3.tok _, rd, q3⟩
end
end Sl
set_option linter.all false
set_option maxRecDepth 8000
set_option maxHeartbeats 1000000
namespace SlM
open Sf47
/-! ### operands as a program may name them -/
def okOp : Bit ⊕ Word → Prop
  | .inl (.i n) => n < 64
  | .inl (.q n) => n < 64
  | .inl (.m n) => n < 256
  | .inl (.t n) => n < 32
  | .inl (.c n) => n < 32
  | .inl (.lit _) => True
  | .inr (.w n) => n < 256
  | .inr (.e n) => n < 32
  | .inr (.v n) => n < 32
  | .inr (.lit z) => fits z = true
def opdOf : Insn → Option (Bit ⊕ Word)
  | .ld x => some x
  | .ldn b => some (.inl b)
  | .st _ b => some (.inl b)
  | .stw n => some (.inr (.w n))
  | .put _ b => some (.inl b)
  | .not => none
  | .bin _ x => some x
  | .open_ _ x => some x
  | .close => none
  | .jmp _ _ => none
  | .ret _ => none
  | .timer _ t _ => some (.inl (.t t))
  | .ctu c _ => some (.inl (.c c))
  | .rc c => some (.inl (.c c))
  | .edge _ m => some (.inl (.m m))
def more : Insn → Prop
  | .st _ b => writable b = true
  | .put _ b => writable b = true
  | .bin o x => o.takes x = true
  | .timer _ _ w => fits (w : Int) = true
  | .ctu _ w => fits w = true
  | _ => True
def okIns (i : Insn) : Prop := (∀ x, opdOf i = some x → okOp x) ∧ more i
theorem numbered_lt {w : Bytes} {c : UInt8} {most n : Nat} (h : numbered w c most = some n) : n < most := by
  cases w with
  | nil => cases h
  | cons x d =>
    rw [numbered_eq] at h
    split at h
    · split at h
      · split at h
        · rename_i q
          cases h
          exact q
        · cases h
      · cases h
    · cases h
theorem first_some {α : Type} {l : List (Option α)} {x : α} (h : first l = some x) : some x ∈ l := by
  unfold first at h
  obtain ⟨o, ho, e⟩ := List.exists_of_findSome?_eq_some h
  have e : o = some x := e
  rwa [← e]
theorem bitOf_ok {w : Bytes} {b : Bit} (h : bitOf w = some b) : okOp (.inl b) := by
  unfold bitOf at h
  split at h
  · cases h; trivial
  split at h
  · cases h; trivial
  have m := first_some h
  simp only [List.mem_cons, List.not_mem_nil, or_false] at m
  rcases m with m | m | m | m | m <;> (obtain ⟨n, hn, e⟩ := Option.map_eq_some_iff.mp m.symm; subst e; exact numbered_lt hn)
theorem wordOf_ok {s : Sign} {x : Word} (h : wordOf s = some x) (hf : ∀ z, s = .num z → fits z = true) : okOp (.inr x) := by
  unfold wordOf at h
  cases s with
  | num z => cases h; exact hf z rfl
  | word w =>
    have m := first_some h
    simp only [List.mem_cons, List.not_mem_nil, or_false] at m
    rcases m with m | m | m <;> (obtain ⟨n, hn, e⟩ := Option.map_eq_some_iff.mp m.symm; subst e; exact numbered_lt hn)
  | _ => cases h
theorem operand_ok {s : Sign} {x : Bit ⊕ Word} (h : operand s = some x) (hf : ∀ z, s = .num z → fits z = true) : okOp x := by
  unfold operand at h
  split at h
  · rename_i y e
    cases h
    exact wordOf_ok e hf
  · cases s with
    | word w =>
      obtain ⟨b, hb, e⟩ := Option.map_eq_some_iff.mp h
      subst e
      exact bitOf_ok hb
    | _ => cases h
theorem target_ok {s : Sign} {b : Bit} (h : target s = some b) : okOp (.inl b) ∧ writable b = true := by
  unfold target at h
  cases s with
  | word w =>
    obtain ⟨y, hy, e⟩ := Option.bind_eq_some_iff.mp h
    split at e
    · rename_i q
      cases e
      exact ⟨bitOf_ok hy, q⟩
    · cases e
  | _ => cases h
theorem named_lt {s : Sign} {c : UInt8} {most n : Nat} (h : named s c most = some n) : n < most := by
  unfold named at h
  cases s with
  | word w => exact numbered_lt h
  | _ => cases h
theorem one_opd {i : Insn} {x : Bit ⊕ Word} (e : opdOf i = some x) (h : okOp x) : ∀ y, opdOf i = some y → okOp y := fun y hy => by
  rw [e] at hy
  cases hy
  exact h
theorem no_opd {i : Insn} (e : opdOf i = none) : ∀ y, opdOf i = some y → okOp y := fun y hy => by
  rw [e] at hy
  cases hy
theorem ite_some {α : Type} {c : Prop} [Decidable c] {a b : Option α} {x : α} (h : (if c then a else b) = some x) : (c ∧ a = some x) ∨ (¬ c ∧ b = some x) :=
  if q : c then .inl ⟨q, (if_pos q).symm.trans h⟩ else .inr ⟨q, (if_neg q).symm.trans h⟩
theorem insn_ok {s : List Sign} {i : Insn} (h : insn s = some i) (hf : ∀ z, Sign.num z ∈ s → fits z = true) : okIns i := by
  unfold insn at h
  split at h
  · cases h; exact ⟨no_opd rfl, trivial⟩
  · rcases ite_some h with ⟨_, h⟩ | ⟨_, h⟩
    · cases h; exact ⟨no_opd rfl, trivial⟩
    rcases ite_some h with ⟨_, h⟩ | ⟨_, h⟩
    · cases h; exact ⟨no_opd rfl, trivial⟩
    rcases ite_some h with ⟨_, h⟩ | ⟨_, h⟩
    · cases h; exact ⟨no_opd rfl, trivial⟩
    · cases h
  · rename_i w x
    obtain ⟨o, ho, h⟩ := Option.bind_eq_some_iff.mp h
    obtain ⟨y, hy, e⟩ := Option.map_eq_some_iff.mp h
    subst e
    exact ⟨one_opd rfl (operand_ok hy fun z e => hf z (by rw [e]; simp)), trivial⟩
  · rename_i w x
    rcases ite_some h with ⟨_, h⟩ | ⟨_, h⟩
    · obtain ⟨y, hy, e⟩ := Option.map_eq_some_iff.mp h
      subst e
      exact ⟨one_opd rfl (operand_ok hy fun z e => hf z (by rw [e]; simp)), trivial⟩
    rcases ite_some h with ⟨_, h⟩ | ⟨_, h⟩
    · cases x with
      | word y =>
        obtain ⟨b, hb, e⟩ := Option.map_eq_some_iff.mp h
        subst e
        exact ⟨one_opd rfl (bitOf_ok hb), trivial⟩
      | _ => cases h
    rcases ite_some h with ⟨_, h⟩ | ⟨_, h⟩
    · split at h
      · rename_i b hb
        cases h
        exact ⟨one_opd rfl (target_ok hb).1, (target_ok hb).2⟩
      · obtain ⟨n, hn, e⟩ := Option.map_eq_some_iff.mp h
        subst e
        exact ⟨one_opd rfl (named_lt hn), trivial⟩
    rcases ite_some h with ⟨_, h⟩ | ⟨_, h⟩
    · obtain ⟨b, hb, e⟩ := Option.map_eq_some_iff.mp h
      subst e
      exact ⟨one_opd rfl (target_ok hb).1, (target_ok hb).2⟩
    rcases ite_some h with ⟨_, h⟩ | ⟨_, h⟩
    · obtain ⟨b, hb, e⟩ := Option.map_eq_some_iff.mp h
      subst e
      exact ⟨one_opd rfl (target_ok hb).1, (target_ok hb).2⟩
    rcases ite_some h with ⟨_, h⟩ | ⟨_, h⟩
    · obtain ⟨b, hb, e⟩ := Option.map_eq_some_iff.mp h
      subst e
      exact ⟨one_opd rfl (target_ok hb).1, (target_ok hb).2⟩
    rcases ite_some h with ⟨_, h⟩ | ⟨_, h⟩
    · cases x with
      | word l => cases h; exact ⟨no_opd rfl, trivial⟩
      | _ => cases h
    rcases ite_some h with ⟨_, h⟩ | ⟨_, h⟩
    · obtain ⟨n, hn, e⟩ := Option.map_eq_some_iff.mp h
      subst e
      exact ⟨one_opd rfl (named_lt hn), trivial⟩
    rcases ite_some h with ⟨_, h⟩ | ⟨_, h⟩
    · obtain ⟨n, hn, e⟩ := Option.map_eq_some_iff.mp h
      subst e
      exact ⟨one_opd rfl (named_lt hn), trivial⟩
    rcases ite_some h with ⟨_, h⟩ | ⟨_, h⟩
    · obtain ⟨n, hn, e⟩ := Option.map_eq_some_iff.mp h
      subst e
      exact ⟨one_opd rfl (named_lt hn), trivial⟩
    obtain ⟨o, ho, h⟩ := Option.bind_eq_some_iff.mp h
    obtain ⟨y, hy, h⟩ := Option.bind_eq_some_iff.mp h
    split at h
    · rename_i q
      cases h
      exact ⟨one_opd rfl (operand_ok hy fun z e => hf z (by rw [e]; simp)), q⟩
    · cases h
  · rename_i w x z _
    have fz : fits z = true := hf z (by simp)
    rcases ite_some h with ⟨_, h⟩ | ⟨_, h⟩
    · obtain ⟨n, hn, e⟩ := Option.map_eq_some_iff.mp h
      subst e
      exact ⟨one_opd rfl (named_lt hn), fz⟩
    · obtain ⟨k, hk, h⟩ := Option.bind_eq_some_iff.mp h
      obtain ⟨t, ht, h⟩ := Option.bind_eq_some_iff.mp h
      split at h
      · rename_i q
        cases h
        refine ⟨one_opd rfl (named_lt ht), ?_⟩
        show fits ((z.toNat : Nat) : Int) = true
        rw [Int.toNat_of_nonneg q]
        exact fz
      · cases h
  · cases h
theorem signs_fit : ∀ (f : Nat) (b : Bytes) (l : List Sign), signs f b = some l → ∀ z, Sign.num z ∈ l → fits z = true
  | _, [], l, h, z, hz => by
    have : l = [] := by
      cases f' : l with
      | nil => rfl
      | cons a r =>
        rw [f'] at h
        unfold signs at h
        cases h
    rw [this] at hz
    cases hz
  | 0, _ :: _, l, h, z, hz => by cases h
  | f + 1, c :: r, l, h, z, hz => by
    have step : ∀ (b : Bytes) (s : Sign), (∀ y, s = .num y → fits y = true) → (signs f b).map (fun l => s :: l) = some l → fits z = true := fun b s hs q => by
      obtain ⟨l', e, rfl⟩ := Option.map_eq_some_iff.mp q
      rcases List.mem_cons.mp hz with m | m
      · exact hs z m.symm
      · exact signs_fit f b l' e z m
    unfold signs at h
    split at h
    · cases h; cases hz
    split at h
    · exact signs_fit f r l h z hz
    split at h
    · exact step r _ (fun y e => by cases e) h
    split at h
    · exact step r _ (fun y e => by cases e) h
    split at h
    · exact step r _ (fun y e => by cases e) h
    split at h
    · dsimp only at h
      split at h
      · cases h
      · exact step _ _ (fun y e => by cases e) h
    split at h
    · dsimp only at h
      generalize (if c = 45 then -(number (if c = 45 then r.takeWhile digit else c :: r.takeWhile digit) : Int) else number (if c = 45 then r.takeWhile digit else c :: r.takeWhile digit)) = zz at h
      generalize (if c = 45 then r.takeWhile digit else c :: r.takeWhile digit) = dd at h
      by_cases q : dd ≠ [] ∧ fits zz = true
      · rw [if_pos q] at h
        exact step _ _ (fun y e => by cases e; exact q.2) h
      · rw [if_neg q] at h
        cases h
    · cases h
/-! ### how many are put off at an instruction -/
def dep (c : List (Nat × Insn)) (n : Nat) : Nat := (c.take n).foldl (fun d x => dOf x.2 d) 0
theorem dep_app {c : List (Nat × Insn)} {x : Nat × Insn} {n : Nat} (h : n ≤ c.length) : dep (c ++ [x]) n = dep c n := by
  unfold dep
  rw [List.take_append_of_le_length h]
theorem dep_last (c : List (Nat × Insn)) (x : Nat × Insn) : dep (c ++ [x]) (c.length + 1) = dOf x.2 (dep c c.length) := by
  unfold dep
  rw [List.take_of_length_le (by simp), List.foldl_append, List.take_length]
  rfl
theorem dep_succ {c : List (Nat × Insn)} {n : Nat} {x : Nat × Insn} (h : c[n]? = some x) : dep c (n + 1) = dOf x.2 (dep c n) := by
  unfold dep
  rw [List.take_succ, h, List.foldl_append]
  rfl
/-- what holds of every program that was read -/
structure PInv (p : Prog) : Prop where
  len : p.code.length ≤ 4096
  fin : dep p.code p.code.length = p.depth
  ins : ∀ (n k : Nat) (i : Insn), p.code[n]? = some (k, i) → okIns i ∧ (i = .close → dep p.code n ≠ 0) ∧ (inside i = false → dep p.code n = 0)
  lab : ∀ x ∈ p.labels, dep p.code x.2.1 = 0 ∧ x.2.1 ≤ p.code.length
theorem insn_inv {p q : Prog} {k : Nat} {s : List Sign} (h : p.insn k s = some q) (hf : ∀ z, Sign.num z ∈ s → fits z = true) (I : PInv p) : PInv q := by
  rw [insn_eq] at h
  split at h
  · cases h; exact I
  obtain ⟨i, hi, h⟩ := Option.bind_eq_some_iff.mp h
  split at h
  · cases h
  rename_i hc
  cases h
  have h1 : ¬ (i = .close ∧ p.depth = 0) := fun z => hc (.inl z)
  have h3 : ¬ (p.depth ≠ 0 ∧ inside i = false) := fun z => hc (.inr (.inr (.inl z)))
  have h4 : ¬ 4096 ≤ p.code.length := fun z => hc (.inr (.inr (.inr z)))
  refine ⟨?_, ?_, fun n k' i' e => ?_, fun x hx => ?_⟩
  · show (p.code ++ [(k, i)]).length ≤ 4096
    rw [List.length_append, List.length_singleton]
    omega
  · show dep (p.code ++ [(k, i)]) (p.code ++ [(k, i)]).length = dOf i p.depth
    rw [List.length_append, List.length_singleton, dep_last, I.fin]
  · have e : (p.code ++ [(k, i)])[n]? = some (k', i') := e
    show okIns i' ∧ (i' = .close → dep (p.code ++ [(k, i)]) n ≠ 0) ∧ (inside i' = false → dep (p.code ++ [(k, i)]) n = 0)
    rcases Nat.lt_trichotomy n p.code.length with lt | eq | gt
    · rw [List.getElem?_append_left lt] at e
      rw [dep_app (Nat.le_of_lt lt)]
      exact I.ins n k' i' e
    · rw [eq, List.getElem?_append_right (Nat.le_refl _), Nat.sub_self] at e
      cases (show some (k, i) = some (k', i') from e)
      rw [eq, dep_app (Nat.le_refl _), I.fin]
      refine ⟨insn_ok hi hf, fun z d => h1 ⟨z, d⟩, fun z => ?_⟩
      by_cases d : p.depth = 0
      · exact d
      · exact absurd ⟨d, z⟩ h3
    · rw [List.getElem?_eq_none (by rw [List.length_append, List.length_singleton]; omega)] at e
      cases e
  · obtain ⟨a, b⟩ := I.lab x hx
    refine ⟨?_, ?_⟩
    · show dep (p.code ++ [(k, i)]) x.2.1 = 0
      rw [dep_app b]
      exact a
    · show x.2.1 ≤ (p.code ++ [(k, i)]).length
      rw [List.length_append]
      omega
theorem line_inv {p q : Prog} {k : Nat} {b : Bytes} (h : p.line k b = some q) (I : PInv p) : PInv q := by
  unfold Prog.line at h
  split at h
  · cases h
  obtain ⟨s, hs, h⟩ := Option.bind_eq_some_iff.mp h
  have hf := signs_fit _ _ _ hs
  split at h
  · rename_i w r
    obtain ⟨p1, h1, h⟩ := Option.bind_eq_some_iff.mp h
    refine insn_inv h (fun z hz => hf z (by simp [hz])) ?_
    unfold Prog.label at h1
    split at h1
    · cases h1
    rename_i hc
    cases h1
    have d0 : p.depth = 0 := by
      by_cases d : p.depth = 0
      · exact d
      · exact absurd (.inr d) hc
    refine ⟨I.len, I.fin, I.ins, fun x hx => ?_⟩
    rcases List.mem_append.mp hx with m | m
    · exact I.lab x m
    · rw [List.mem_singleton.mp m]
      exact ⟨by show dep p.code p.code.length = 0; rw [I.fin, d0], Nat.le_refl _⟩
  · exact insn_inv h hf I
theorem reads_inv : ∀ (rows : List Bytes) (k : Nat) (p q : Prog), reads k p rows = .ok q → PInv p → PInv q ∧ q.depth = 0
  | [], k, p, q, h, I => by
    unfold reads at h
    split at h
    · rename_i d
      cases h
      exact ⟨I, d⟩
    · cases h
  | b :: r, k, p, q, h, I => by
    unfold reads at h
    split at h
    · rename_i p1 e
      exact reads_inv r (k + 1) p1 q h (line_inv e I)
    · cases h
theorem read_inv {rows : List Bytes} {q : Prog} (h : reads 1 ⟨[], [], 0⟩ rows = .ok q) : PInv q ∧ q.depth = 0 :=
  reads_inv rows 1 ⟨[], [], 0⟩ q h ⟨Nat.zero_le _, rfl, (fun n k i e => nomatch (show (none : Option (Nat × Insn)) = some (k, i) from e)), (fun x hx => nomatch (show x ∈ ([] : List (Bytes × Nat × Nat)) from hx))⟩
end SlM
set_option linter.all false
set_option maxRecDepth 8000
set_option maxHeartbeats 1000000
namespace SlM
open Sf47
theorem over_set {α : Type} (l : List α) (i : Nat) (x : α) : over l i x = l.set i x := by
  unfold over
  refine List.ext_getElem? fun j => ?_
  rw [List.getElem?_mapIdx, List.getElem?_set]
  by_cases e : i = j
  · subst e
    rw [if_pos rfl]
    by_cases h : i < l.length
    · rw [if_pos h, List.getElem?_eq_getElem h]
      simp
    · rw [if_neg h, List.getElem?_eq_none (Nat.le_of_not_lt h)]
      rfl
  · rw [if_neg e]
    cases l[j]? with
    | none => rfl
    | some y => simp [Ne.symm e]
theorem over_len {α : Type} (l : List α) (i : Nat) (x : α) : (over l i x).length = l.length := by rw [over_set, List.length_set]
theorem mem_over {α : Type} {l : List α} {i : Nat} {x y : α} (h : y ∈ over l i x) : y ∈ l ∨ y = x := by
  rw [over_set] at h
  exact List.mem_or_eq_of_mem_set h
theorem getD_mem {α : Type} {l : List α} {n : Nat} {d : α} (h : n < l.length) : l.getD n d ∈ l := by
  rw [List.getD_eq_getElem?_getD, List.getElem?_eq_getElem h]
  exact List.getElem_mem h
/-! ### numbers -/
def absI (a : Int) : Int := if a < 0 then -a else a
theorem absI_nat (a : Int) : absI a = (a.natAbs : Int) := by
  unfold absI
  split <;> omega
theorem div_is (a b : Int) : (if decide (a < 0) = decide (b < 0) then absI a / absI b else -(absI a / absI b)) = Int.tdiv a b := by
  rw [absI_nat, absI_nat]
  rcases Int.natAbs_eq a with ha | ha <;> rcases Int.natAbs_eq b with hb | hb
  · by_cases a0 : a.natAbs = 0
    · have : a = 0 := Int.natAbs_eq_zero.mp a0
      subst this
      simp
    · rw [if_pos (by rw [decide_eq_false (by omega), decide_eq_false (by omega)])]
      conv => rhs; rw [ha, hb]
      rw [Int.tdiv_eq_ediv_of_nonneg (by omega)]
  · by_cases b0 : b.natAbs = 0
    · have : b = 0 := Int.natAbs_eq_zero.mp b0
      subst this
      simp
    · rw [if_neg (by rw [decide_eq_false (by omega), decide_eq_true (by omega)]; decide)]
      conv => rhs; rw [ha, hb]
      rw [Int.tdiv_neg, Int.tdiv_eq_ediv_of_nonneg (by omega)]
  · by_cases a0 : a.natAbs = 0
    · have : a = 0 := Int.natAbs_eq_zero.mp a0
      subst this
      simp
    · rw [if_neg (by rw [decide_eq_true (by omega), decide_eq_false (by omega)]; decide)]
      conv => rhs; rw [ha, hb]
      rw [Int.neg_tdiv, Int.tdiv_eq_ediv_of_nonneg (by omega)]
  · by_cases a0 : a.natAbs = 0
    · have : a = 0 := Int.natAbs_eq_zero.mp a0
      subst this
      simp
    by_cases b0 : b.natAbs = 0
    · have : b = 0 := Int.natAbs_eq_zero.mp b0
      subst this
      simp
    · rw [if_pos (by rw [decide_eq_true (by omega), decide_eq_true (by omega)])]
      conv => rhs; rw [ha, hb]
      rw [Int.neg_tdiv, Int.tdiv_neg, Int.tdiv_eq_ediv_of_nonneg (by omega), Int.neg_neg]
theorem mod_is (a b : Int) : (if a < 0 then -((absI a).fmod (absI b)) else (absI a).fmod (absI b)) = Int.tmod a b := by
  rw [absI_nat, absI_nat, Int.fmod_eq_emod_of_nonneg _ (by omega)]
  have hb : ∀ x : Int, x.tmod (b.natAbs : Int) = x.tmod b := fun x => by
    rcases Int.natAbs_eq b with hb | hb
    · conv => rhs; rw [hb]
    · conv => rhs; rw [hb]
      rw [Int.tmod_neg]
  split
  · rename_i h
    have ha : a = -(a.natAbs : Int) := by omega
    conv => rhs; rw [ha]
    rw [Int.neg_tmod, ← hb, Int.tmod_eq_emod_of_nonneg (by omega)]
  · rename_i h
    have ha : a = (a.natAbs : Int) := by omega
    conv => rhs; rw [ha]
    rw [← hb, Int.tmod_eq_emod_of_nonneg (by omega)]
theorem fits_iff {z : Int} : fits z = true ↔ -2147483648 ≤ z ∧ z < 2147483648 := by
  unfold fits
  rw [Bool.and_eq_true, decide_eq_true_eq, decide_eq_true_eq]
  exact Iff.rfl
theorem mod_fits {a b : Int} (h : fits a = true) : fits (Int.tmod a b) = true := by
  have e : (Int.tmod a b).natAbs = a.natAbs % b.natAbs := Int.natAbs_tmod a b
  have l : a.natAbs % b.natAbs ≤ a.natAbs := Nat.mod_le _ _
  have h := fits_iff.mp h
  refine fits_iff.mpr ?_
  have s : a < 0 → Int.tmod a b ≤ 0 := fun q => by
    have z : 0 ≤ Int.tmod (-a) b := Int.tmod_nonneg _ (by omega)
    rw [Int.neg_tmod] at z
    omega
  have s2 : 0 ≤ a → 0 ≤ Int.tmod a b := fun q => Int.tmod_nonneg _ q
  by_cases q : a < 0
  · have := s q
    omega
  · have := s2 (by omega)
    omega
theorem mod_ok {a b : Int} (h : fits a = true) : fit (Int.tmod a b) = .ok (.inr (Int.tmod a b)) := by
  unfold fit
  rw [if_pos (mod_fits h)]
/-! ### a state's bounds -/
def fitV : Val → Prop
  | .inl _ => True
  | .inr z => fits z = true
structure TimOk (now : Nat) (t : Tim) : Prop where
  since : t.since ≤ now
  time : fits (t.time : Int) = true
structure Good (s : St) : Prop where
  q : s.q.length = 64
  m : s.m.length = 256
  w : s.words.length = 256
  t : s.timers.length = 32
  c : s.counts.length = 32
  wf : ∀ z ∈ s.words, fits z = true
  tf : ∀ t ∈ s.timers, TimOk s.now t
  cf : ∀ c ∈ s.counts, fits c.value = true
  rf : ∀ v, s.res = some v → fitV v
  pf : ∀ x ∈ s.put, fitV x.2
theorem noTim_ok (now : Nat) : TimOk now noTim := ⟨Nat.zero_le _, by decide⟩
theorem use_ok {t : Tim} {k : Timer} {x : Bool} {w now : Nat} (h : TimOk now t) (hw : fits (w : Int) = true) : TimOk now (t.use k x w now) := by
  have hw := fits_iff.mp hw
  have ht := fits_iff.mp h.time
  have hs := h.since
  have min_fits : ∀ a : Nat, fits ((min a w : Nat) : Int) = true := fun a => fits_iff.mpr (by omega)
  cases k with
  | ton =>
    unfold Tim.use
    dsimp only
    split
    · refine ⟨?_, min_fits _⟩
      show (if t.was = true then t.since else now) ≤ now
      split
      · exact hs
      · exact Nat.le_refl _
    · exact ⟨hs, (by decide : fits ((0 : Nat) : Int) = true)⟩
  | tof =>
    unfold Tim.use
    dsimp only
    split
    · exact ⟨hs, (by decide : fits ((0 : Nat) : Int) = true)⟩
    · split
      · refine ⟨?_, min_fits _⟩
        show (if t.was = true then now else t.since) ≤ now
        split
        · exact Nat.le_refl _
        · exact hs
      · refine ⟨?_, (by decide : fits ((0 : Nat) : Int) = true)⟩
        show (if t.was = true then now else t.since) ≤ now
        split
        · exact Nat.le_refl _
        · exact hs
  | tp =>
    have b : (if (x && (!t.was && !t.on)) = true then now else t.since) ≤ now := by
      split
      · exact Nat.le_refl _
      · exact hs
    show TimOk now (if (x && (!t.was && !t.on)) = true ∨ t.on = true then (if min (now - (if (x && (!t.was && !t.on)) = true then now else t.since)) w = w then ⟨x, false, if (x && (!t.was && !t.on)) = true then now else t.since, if x = true then w else 0, false⟩
      else ⟨x, true, if (x && (!t.was && !t.on)) = true then now else t.since, min (now - (if (x && (!t.was && !t.on)) = true then now else t.since)) w, true⟩) else ⟨x, false, if (x && (!t.was && !t.on)) = true then now else t.since, if x = true then t.time else 0, false⟩)
    generalize (if (x && (!t.was && !t.on)) = true then now else t.since) = bb at b
    split
    · split
      · refine ⟨b, ?_⟩
        show fits (((if x = true then w else 0 : Nat)) : Int) = true
        split
        · exact fits_iff.mpr hw
        · decide
      · exact ⟨b, min_fits _⟩
    · refine ⟨b, ?_⟩
      show fits (((if x = true then t.time else 0 : Nat)) : Int) = true
      split
      · exact h.time
      · decide
theorem count_ok {c : Count} {x : Bool} {w : Int} (h : fits c.value = true) : fits (c.use x w).value = true := by
  have h := fits_iff.mp h
  unfold Count.use
  show fits (if x = true ∧ c.was = false then min (c.value + 1) (2 ^ 31 - 1) else c.value) = true
  split
  · refine fits_iff.mpr ?_
    have : (2 : Int) ^ 31 - 1 = 2147483647 := by decide
    rw [this]
    omega
  · exact fits_iff.mpr h
theorem value_fits {s : St} (G : Good s) {x : Bit ⊕ Word} (h : okOp x) : fitV (s.value x) := by
  cases x with
  | inl b => trivial
  | inr w =>
    cases w with
    | w n => exact G.wf _ (getD_mem (by rw [G.w]; exact h))
    | e n => exact (G.tf _ (getD_mem (by rw [G.t]; exact h))).time
    | v n => exact G.cf _ (getD_mem (by rw [G.c]; exact h))
    | lit z => exact h
theorem bin_fits {o : Bin} {a b v : Val} (h : o.run a b = .ok v) : fitV v := by
  unfold Bin.run at h
  split at h
  · cases h; trivial
  · rename_i o' x y
    have key : ∀ z : Int, fit z = .ok v → fitV v := fun z q => by
      unfold fit at q
      split at q
      · rename_i f
        cases q
        exact f
      · cases q
    unfold Arith.run at h
    split at h
    · exact key _ h
    · exact key _ h
    · exact key _ h
    · split at h
      · cases h
      · exact key _ h
    · split at h
      · cases h
      · exact key _ h
  · cases h; trivial
  · cases h
theorem bind_ok {α β : Type} {x : Except Nat α} {f : α → Except Nat β} {y : β} (h : x.bind f = .ok y) : ∃ a, x = .ok a ∧ f a = .ok y := by
  cases x with
  | error e => cases h
  | ok a => exact ⟨a, rfl, h⟩
theorem map_ok {α β : Type} {x : Except Nat α} {f : α → β} {y : β} (h : x.map f = .ok y) : ∃ a, x = .ok a ∧ f a = y := by
  cases x with
  | error e => cases h
  | ok a => exact ⟨a, rfl, by cases h; rfl⟩
/-- what an instruction that is done leaves -/
structure Done (p : Prog) (i : Insn) (s s' : St) (nx : Next) : Prop where
  good : Good s'
  now : s'.now = s.now
  ins : s'.ins = s.ins
  put : s'.put.length = dOf i s.put.length
  at_ : ∀ q, nx = .at_ q → ∃ k l, i = .jmp k l ∧ q = (p.place l).getD 0
  over : nx = .over_ → ∃ c, i = .ret c
theorem setBit_keep (s : St) (b : Bit) (x : Bool) : (s.setBit b x).now = s.now ∧ (s.setBit b x).ins = s.ins ∧ (s.setBit b x).put = s.put ∧ (s.setBit b x).res = s.res ∧ (s.setBit b x).words = s.words ∧ (s.setBit b x).timers = s.timers ∧ (s.setBit b x).counts = s.counts ∧ (s.setBit b x).q.length = s.q.length ∧ (s.setBit b x).m.length = s.m.length := by
  cases b <;> simp [St.setBit, over_len]
theorem setBit_good {s : St} (G : Good s) (b : Bit) (x : Bool) : Good (s.setBit b x) := by
  obtain ⟨h1, h2, h3, h4, h5, h6, h7, h8, h9⟩ := setBit_keep s b x
  exact ⟨h8.trans G.q, h9.trans G.m, by rw [h5]; exact G.w, by rw [h6]; exact G.t, by rw [h7]; exact G.c, by rw [h5]; exact G.wf, by rw [h6, h1]; exact G.tf, by rw [h7]; exact G.cf, by rw [h4]; exact G.rf, by rw [h3]; exact G.pf⟩
theorem res_good {s : St} (G : Good s) {v : Val} (hv : fitV v) : Good { s with res := some v } :=
  ⟨G.q, G.m, G.w, G.t, G.c, G.wf, G.tf, G.cf, fun u e => by cases e; exact hv, G.pf⟩
theorem run_done {p : Prog} {i : Insn} {s s' : St} {nx : Next} (G : Good s) (O : okIns i) (h : s.run p i = .ok (s', nx)) : Done p i s s' nx := by
  have nb : ∀ {P : Prop} {q : Nat}, Next.behind = .at_ q → P := fun e => by cases e
  have nb2 : ∀ {P : Prop}, Next.behind = .over_ → P := fun e => by cases e
  cases i with
  | ld x =>
    cases h
    exact ⟨res_good G (value_fits G (O.1 x rfl)), rfl, rfl, rfl, fun _ => nb, nb2⟩
  | ldn b =>
    cases h
    exact ⟨res_good G trivial, rfl, rfl, rfl, fun _ => nb, nb2⟩
  | st n b =>
    obtain ⟨x, _, h⟩ := bind_ok h
    cases h
    obtain ⟨h1, h2, h3, _⟩ := setBit_keep s b (x != n)
    exact ⟨setBit_good G _ _, h1, h2, by rw [h3]; rfl, fun _ => nb, nb2⟩
  | stw n =>
    obtain ⟨x, hx, h⟩ := bind_ok h
    cases h
    have fx : fits x = true := by
      unfold St.asWord at hx
      split at hx
      · rename_i z e
        cases hx
        exact G.rf _ e
      · cases hx
    exact ⟨⟨G.q, G.m, (over_len _ _ _).trans G.w, G.t, G.c, fun z hz => (mem_over hz).elim (G.wf z) (fun e => by rw [e]; exact fx), G.tf, G.cf, G.rf, G.pf⟩, rfl, rfl, rfl, fun _ => nb, nb2⟩
  | put v b =>
    obtain ⟨x, _, h⟩ := bind_ok h
    cases h
    cases x with
    | true =>
      obtain ⟨h1, h2, h3, _⟩ := setBit_keep s b v
      exact ⟨setBit_good G _ _, h1, h2, by show (s.setBit b v).put.length = _; rw [h3]; rfl, fun _ => nb, nb2⟩
    | false => exact ⟨G, rfl, rfl, rfl, fun _ => nb, nb2⟩
  | not =>
    obtain ⟨x, _, h⟩ := bind_ok h
    cases h
    exact ⟨res_good G trivial, rfl, rfl, rfl, fun _ => nb, nb2⟩
  | bin o x =>
    unfold St.run at h
    dsimp only at h
    split at h
    · cases h
    · obtain ⟨v, hv, h⟩ := bind_ok h
      cases h
      exact ⟨res_good G (bin_fits hv), rfl, rfl, rfl, fun _ => nb, nb2⟩
  | open_ o x =>
    unfold St.run at h
    dsimp only at h
    split at h
    · cases h
    · rename_i a e
      cases h
      refine ⟨⟨G.q, G.m, G.w, G.t, G.c, G.wf, G.tf, G.cf, fun u e => by cases e; exact value_fits G (O.1 x rfl), fun y hy => ?_⟩, rfl, rfl, rfl, fun _ => nb, nb2⟩
      rcases List.mem_cons.mp hy with q | q
      · rw [q]
        exact G.rf a e
      · exact G.pf y q
  | close =>
    unfold St.run at h
    dsimp only at h
    split at h
    · rename_i o a r b e1 e2
      obtain ⟨v, hv, h⟩ := bind_ok h
      cases h
      refine ⟨⟨G.q, G.m, G.w, G.t, G.c, G.wf, G.tf, G.cf, fun u e => by cases e; exact bin_fits hv, fun y hy => G.pf y (by rw [e1]; exact List.mem_cons_of_mem _ hy)⟩, rfl, rfl, ?_, fun _ => nb, nb2⟩
      show r.length = s.put.length - 1
      rw [e1]
      rfl
    · cases h
  | jmp k l =>
    cases k with
    | always =>
      cases h
      exact ⟨G, rfl, rfl, rfl, fun q e => by cases e; exact ⟨_, _, rfl, rfl⟩, fun e => by cases e⟩
    | one =>
      obtain ⟨x, _, h⟩ := map_ok h
      cases h
      refine ⟨G, rfl, rfl, rfl, fun q e => ?_, fun e => ?_⟩
      · split at e
        · cases e; exact ⟨_, _, rfl, rfl⟩
        · cases e
      · split at e <;> cases e
    | zero =>
      obtain ⟨x, _, h⟩ := map_ok h
      cases h
      refine ⟨G, rfl, rfl, rfl, fun q e => ?_, fun e => ?_⟩
      · split at e
        · cases e
        · cases e; exact ⟨_, _, rfl, rfl⟩
      · split at e <;> cases e
  | ret c =>
    unfold St.run at h
    dsimp only at h
    split at h
    · obtain ⟨x, _, h⟩ := map_ok h
      cases h
      refine ⟨G, rfl, rfl, rfl, fun q e => ?_, fun e => ⟨_, rfl⟩⟩
      split at e <;> cases e
    · cases h
      exact ⟨G, rfl, rfl, rfl, fun q e => by (cases e), fun e => ⟨_, rfl⟩⟩
  | timer k t w =>
    obtain ⟨x, _, h⟩ := bind_ok h
    cases h
    have ht : t < s.timers.length := by rw [G.t]; exact O.1 _ rfl
    exact ⟨⟨G.q, G.m, G.w, (over_len _ _ _).trans G.t, G.c, G.wf, fun u hu => (mem_over hu).elim (G.tf u) (fun e => by rw [e]; exact use_ok (G.tf _ (getD_mem ht)) O.2), G.cf, fun u e => by cases e; trivial, G.pf⟩, rfl, rfl, rfl, fun _ => nb, nb2⟩
  | ctu c w =>
    obtain ⟨x, _, h⟩ := bind_ok h
    cases h
    have ht : c < s.counts.length := by rw [G.c]; exact O.1 _ rfl
    exact ⟨⟨G.q, G.m, G.w, G.t, (over_len _ _ _).trans G.c, G.wf, G.tf, fun u hu => (mem_over hu).elim (G.cf u) (fun e => by rw [e]; exact count_ok (G.cf _ (getD_mem ht))), fun u e => by cases e; trivial, G.pf⟩, rfl, rfl, rfl, fun _ => nb, nb2⟩
  | rc c =>
    obtain ⟨x, _, h⟩ := bind_ok h
    cases h
    cases x with
    | true =>
      exact ⟨⟨G.q, G.m, G.w, G.t, (over_len _ _ _).trans G.c, G.wf, G.tf, fun u hu => (mem_over hu).elim (G.cf u) (fun e => by rw [e]; exact (by decide : fits 0 = true)), G.rf, G.pf⟩, rfl, rfl, rfl, fun _ => nb, nb2⟩
    | false => exact ⟨G, rfl, rfl, rfl, fun _ => nb, nb2⟩
  | edge up m =>
    obtain ⟨x, _, h⟩ := bind_ok h
    cases h
    exact ⟨⟨G.q, (over_len _ _ _).trans G.m, G.w, G.t, G.c, G.wf, G.tf, G.cf, fun u e => by cases e; trivial, G.pf⟩, rfl, rfl, rfl, fun _ => nb, nb2⟩
/-! ### scans -/
theorem scan_end {s : St} {p : Prog} {n pc : Nat} (h : p.code[pc]? = none) : s.scan p n pc = .ok s := by
  rw [St.scan, h]
theorem scan_long {s : St} {p : Prog} {pc : Nat} {x : Nat × Insn} (h : p.code[pc]? = some x) : s.scan p 0 pc = .error (4, x.1) := by
  rw [St.scan, h]
theorem scan_step {s : St} {p : Prog} {n pc : Nat} {x : Nat × Insn} (h : p.code[pc]? = some x) : s.scan p (n + 1) pc = match s.run p x.2 with
    | .error e => .error (e, x.1)
    | .ok (t, .behind) => t.scan p n (pc + 1)
    | .ok (t, .at_ q) => t.scan p n q
    | .ok (t, .over_) => .ok t := by
  rw [St.scan, h]
  rfl
/-! ### outputs -/
def bin2 : List Bool → Nat
  | [] => 0
  | b :: r => bin2 r * 2 + (if b = true then 1 else 0)
theorem sum_mul2 (f : Nat → Nat) : ∀ l : List Nat, (l.map fun i => 2 * f i).sum = 2 * (l.map f).sum
  | [] => rfl
  | a :: r => by
    rw [List.map_cons, List.sum_cons, List.map_cons, List.sum_cons, sum_mul2 f r, Nat.mul_add]
theorem bits_is : ∀ l : List Bool, bits l = bin2 l
  | [] => rfl
  | b :: r => by
    unfold bits bin2
    rw [List.length_cons, List.range_succ_eq_map, List.map_cons, List.sum_cons, List.map_map, ← bits_is r]
    unfold bits
    have e : ((fun i => if (b :: r).getD i false = true then 2 ^ i else 0) ∘ Nat.succ) = fun i => 2 * (if r.getD i false = true then 2 ^ i else 0) := by
      funext i
      show (if (b :: r).getD (i + 1) false = true then 2 ^ (i + 1) else 0) = _
      rw [List.getD_cons_succ]
      split
      · rw [Nat.pow_succ, Nat.mul_comm]
      · rfl
    rw [e, sum_mul2 fun i => if r.getD i false = true then 2 ^ i else 0, List.getD_cons_zero, Nat.pow_zero, Nat.mul_comm]
    omega
end SlM
set_option Elab.async false
set_option linter.all false
set_option maxRecDepth 100000
set_option maxHeartbeats 4000000
namespace Sl
open PySem PySem.Spec PyProof.Rows L2 SlM
def valV : Sf47.Val → V
  | .inl b => .bl b
  | .inr z => .int z
def resV : Option Sf47.Val → V
  | none => .non
  | some v => valV v
/-! ### where a machine's things stand: 0 the machine, 1 its dict, 2 to 10 its lists (constants, W, I, Q, M, T, C, E, V), 11 the timers, 12 the counters, 13 what is put by, 14 on each timer, 46 on each counter -/
structure Lay where
  CM : Addr
  CT : Addr
  CC : Addr
  A : Nat → Addr
  D : Nat → Addr
def Lay.Inj (L : Lay) : Prop := ∀ i j, i < 78 → j < 78 → L.A i = L.A j → i = j
structure PM where
  now : Int
  res : V
  at_ : Int
  pb : List Addr
  w : List V
  i : List V
  q : List V
  m : List V
  t : List V
  c : List V
  e : List V
  v : List V
  tim : Nat → Sf47.Tim
  cnt : Nat → Sf47.Count
def machF (cells timers counters now res pb at_ : V) : List (Str × V) := [("cells", cells), ("timers", timers), ("counters", counters), ("now", now), ("result", res), ("put_by", pb), ("at", at_)]
def timF (t : Sf47.Tim) : List (Str × V) := [("was_on", .bl t.was), ("since", .int t.since), ("has_run", .bl t.run), ("elapsed", .int t.time), ("bit", .bl t.on)]
def cntF (c : Sf47.Count) : List (Str × V) := [("was_on", .bl c.was), ("counted", .int c.value), ("bit", .bl c.on)]
def cellsK (A : Nat → Addr) : List (Key × V) := [(Sum.inr "constant", .ref (A 2)), (Sum.inr "W", .ref (A 3)), (Sum.inr "I", .ref (A 4)), (Sum.inr "Q", .ref (A 5)), (Sum.inr "M", .ref (A 6)), (Sum.inr "T", .ref (A 7)), (Sum.inr "C", .ref (A 8)), (Sum.inr "E", .ref (A 9)), (Sum.inr "V", .ref (A 10))]
def img (L : Lay) (p : PM) : Nat → HO
  | 0 => .ins L.CM (L.D 0) (machF (.ref (L.A 1)) (.ref (L.A 11)) (.ref (L.A 12)) (.int p.now) p.res (.ref (L.A 13)) (.int p.at_))
  | 1 => .dK (cellsK L.A)
  | 2 => .lst [.bl false, .bl true]
  | 3 => .lst p.w
  | 4 => .lst p.i
  | 5 => .lst p.q
  | 6 => .lst p.m
  | 7 => .lst p.t
  | 8 => .lst p.c
  | 9 => .lst p.e
  | 10 => .lst p.v
  | 11 => .lst ((List.range 32).map fun k => .ref (L.A (k + 14)))
  | 12 => .lst ((List.range 32).map fun k => .ref (L.A (k + 46)))
  | 13 => .lst (p.pb.map V.ref)
  | n + 14 => if n < 32 then .ins L.CT (L.D (n + 14)) (timF (p.tim n)) else .ins L.CC (L.D (n + 14)) (cntF (p.cnt (n - 32)))
def Mach (L : Lay) (p : PM) (H : Hp) : Prop := ∀ j, j < 78 → H (L.A j) = some (img L p j)
theorem img_tim (L : Lay) (p : PM) {n : Nat} (h : n < 32) : img L p (n + 14) = .ins L.CT (L.D (n + 14)) (timF (p.tim n)) := if_pos h
theorem img_cnt (L : Lay) (p : PM) {n : Nat} : img L p (n + 46) = .ins L.CC (L.D (n + 46)) (cntF (p.cnt n)) := by
  show (if n + 32 < 32 then HO.ins L.CT (L.D (n + 32 + 14)) (timF (p.tim (n + 32))) else HO.ins L.CC (L.D (n + 32 + 14)) (cntF (p.cnt (n + 32 - 32)))) = _
  rw [if_neg (by omega), Nat.add_sub_cancel]
/-- two states agree but for what stands at place j -/
theorem img_same {L : Lay} {p p' : PM} {j : Nat} (hm : j = 0 ∨ (p'.now = p.now ∧ p'.res = p.res ∧ p'.at_ = p.at_)) (hw : j = 3 ∨ p'.w = p.w) (hi : j = 4 ∨ p'.i = p.i) (hq : j = 5 ∨ p'.q = p.q) (hmm : j = 6 ∨ p'.m = p.m) (ht : j = 7 ∨ p'.t = p.t) (hc : j = 8 ∨ p'.c = p.c)
    (he : j = 9 ∨ p'.e = p.e) (hv : j = 10 ∨ p'.v = p.v) (hb : j = 13 ∨ p'.pb = p.pb) (hti : ∀ n, n < 32 → j = n + 14 ∨ p'.tim n = p.tim n) (hcn : ∀ n, n < 32 → j = n + 46 ∨ p'.cnt n = p.cnt n) {i : Nat} (h78 : i < 78) (hij : i ≠ j) : img L p' i = img L p i := by
  have no : ∀ (k : Nat) (P : Prop), i = k → (j = k ∨ P) → P := fun k P e h => h.elim (fun q => absurd (e.trans q.symm) hij) id
  rcases i with _ | _ | _ | _ | _ | _ | _ | _ | _ | _ | _ | _ | _ | _ | n
  · obtain ⟨a, b, c⟩ := no 0 _ rfl hm
    show HO.ins _ _ (machF _ _ _ (.int p'.now) p'.res _ (.int p'.at_)) = _
    rw [a, b, c]
    rfl
  · rfl
  · rfl
  · exact congrArg HO.lst (no 3 _ rfl hw)
  · exact congrArg HO.lst (no 4 _ rfl hi)
  · exact congrArg HO.lst (no 5 _ rfl hq)
  · exact congrArg HO.lst (no 6 _ rfl hmm)
  · exact congrArg HO.lst (no 7 _ rfl ht)
  · exact congrArg HO.lst (no 8 _ rfl hc)
  · exact congrArg HO.lst (no 9 _ rfl he)
  · exact congrArg HO.lst (no 10 _ rfl hv)
  · rfl
  · rfl
  · exact congrArg (fun l : List Addr => HO.lst (l.map V.ref)) (no 13 _ rfl hb)
  · by_cases h : n < 32
    · show img L p' (n + 14) = img L p (n + 14)
      rw [img_tim L p h, img_tim L p' h, no (n + 14) _ rfl (hti n h)]
    · have e : n + 14 = (n - 32) + 46 := by omega
      have e2 : n - 32 < 32 := by omega
      show img L p' (n + 14) = img L p (n + 14)
      rw [e, img_cnt, img_cnt, no ((n - 32) + 46) _ e (hcn (n - 32) e2)]
section
variable {L : Lay} {p p' : PM} {H H' : Hp} {j : Nat}
theorem Mach.at (h : Mach L p H) (hI : L.Inj) (hj : j < 78) (e : H' (L.A j) = some (img L p' j)) (o : ∀ b, b ≠ L.A j → H' b = H b) (k : ∀ i, i < 78 → i ≠ j → img L p' i = img L p i) : Mach L p' H' := fun i hi => by
  by_cases q : i = j
  · rw [q]
    exact e
  · rw [o _ fun z => q (hI i j hi hj z), k i hi q]
    exact h i hi
theorem Mach.to (h : Mach L p H) (hI : L.Inj) (hj : j < 78) {o : HO} (e : o = img L p' j) (k : ∀ i, i < 78 → i ≠ j → img L p' i = img L p i) : Mach L p' (upd H (L.A j) o) :=
  h.at hI hj (by rw [upd_same, e]) (fun b hb => upd_ne hb) k
/-- what is not the machine's stays -/
def Frame (L : Lay) (H H' : Hp) : Prop := ∀ b o, H b = some o → (∀ j, j < 78 → b ≠ L.A j) → H' b = some o
theorem Frame.refl (L : Lay) (H : Hp) : Frame L H H := fun _ _ h _ => h
theorem Frame.trans {H1 : Hp} (a : Frame L H H1) (b : Frame L H1 H') : Frame L H H' := fun c o h n => b c o (a c o h n) n
theorem Frame.of_same (s : Same H H') : Frame L H H' := fun b o h _ => s b o h
theorem Frame.put {o : HO} (hj : j < 78) : Frame L H (upd H (L.A j) o) := fun b u h n => by rw [upd_ne (n j hj)]; exact h
theorem Frame.at (hj : j < 78) (k : ∀ b, b ≠ L.A j → H' b = H b) : Frame L H H' := fun b u h n => by rw [k b (n j hj)]; exact h
theorem Mach.out (h : Mach L p H) {b : Addr} (n : H b = none) : ∀ j, j < 78 → b ≠ L.A j := fun j hj z => by rw [z, h j hj] at n; cases n
theorem Mach.new (h : Mach L p H) {b : Addr} {o : HO} (n : H b = none) : Mach L p (upd H b o) := fun j hj => by rw [upd_ne (Ne.symm (h.out n j hj))]; exact h j hj
theorem Mach.same (h : Mach L p H) (s : Same H H') : Mach L p H' := fun j hj => s _ _ (h j hj)
theorem Frame.new (h : Mach L p H) {b : Addr} {o : HO} (n : H b = none) : Frame L H (upd H b o) := fun c u e _ => by rw [upd_ne (ne_of_none e n)]; exact e
/-! ### fields stored -/
theorem put_result (a b c d e f g v : V) : putF "result" v (machF a b c d e f g) = machF a b c d v f g := by kernel_rfl
theorem put_at (a b c d e f g v : V) : putF "at" v (machF a b c d e f g) = machF a b c d e f v := by kernel_rfl
theorem put_now (a b c d e f g v : V) : putF "now" v (machF a b c d e f g) = machF a b c v e f g := by kernel_rfl
theorem get_cells (a b c d e f g : V) : (machF a b c d e f g).lookup ("cells" : Str) = some a := by kernel_rfl
theorem get_timers (a b c d e f g : V) : (machF a b c d e f g).lookup ("timers" : Str) = some b := by kernel_rfl
theorem get_counters (a b c d e f g : V) : (machF a b c d e f g).lookup ("counters" : Str) = some c := by kernel_rfl
theorem get_now (a b c d e f g : V) : (machF a b c d e f g).lookup ("now" : Str) = some d := by kernel_rfl
theorem get_result (a b c d e f g : V) : (machF a b c d e f g).lookup ("result" : Str) = some e := by kernel_rfl
theorem get_putby (a b c d e f g : V) : (machF a b c d e f g).lookup ("put_by" : Str) = some f := by kernel_rfl
theorem get_at (a b c d e f g : V) : (machF a b c d e f g).lookup ("at" : Str) = some g := by kernel_rfl
theorem mach_new (a b c d e f g : V) : putF "at" g (putF "put_by" f (putF "result" e (putF "now" d (putF "counters" c (putF "timers" b (putF "cells" a [])))))) = machF a b c d e f g := by kernel_rfl
end
end Sl
set_option Elab.async false
set_option linter.all false
set_option maxRecDepth 100000
set_option maxHeartbeats 4000000
namespace Sl
open PySem PySem.Spec PyProof.Rows L2 SlM
section
variable {L : Lay} {p : PM} {H H' : Hp} {j : Nat}
theorem Mach.setMach (h : Mach L p H) (hI : L.Inj) (now : Int) (res : V) (at_ : Int) : Mach L { p with now := now, res := res, at_ := at_ } (upd H (L.A 0) (.ins L.CM (L.D 0) (machF (.ref (L.A 1)) (.ref (L.A 11)) (.ref (L.A 12)) (.int now) res (.ref (L.A 13)) (.int at_)))) :=
  h.to hI (by decide) rfl fun i hi q => by (apply img_same (h78 := hi) (hij := q) <;> first | exact .inr rfl | exact .inl rfl | exact .inr ⟨rfl, rfl, rfl⟩ | exact fun _ _ => .inr rfl)
theorem Mach.setRes (h : Mach L p H) (hI : L.Inj) (v : V) : Mach L { p with res := v } (upd H (L.A 0) (.ins L.CM (L.D 0) (putF "result" v (machF (.ref (L.A 1)) (.ref (L.A 11)) (.ref (L.A 12)) (.int p.now) p.res (.ref (L.A 13)) (.int p.at_))))) := by
  rw [put_result]
  exact h.setMach hI p.now v p.at_
theorem Mach.setAt (h : Mach L p H) (hI : L.Inj) (n : Int) : Mach L { p with at_ := n } (upd H (L.A 0) (.ins L.CM (L.D 0) (putF "at" (.int n) (machF (.ref (L.A 1)) (.ref (L.A 11)) (.ref (L.A 12)) (.int p.now) p.res (.ref (L.A 13)) (.int p.at_))))) := by
  rw [put_at]
  exact h.setMach hI p.now p.res n
theorem Mach.setNow (h : Mach L p H) (hI : L.Inj) (n : Int) : Mach L { p with now := n } (upd H (L.A 0) (.ins L.CM (L.D 0) (putF "now" (.int n) (machF (.ref (L.A 1)) (.ref (L.A 11)) (.ref (L.A 12)) (.int p.now) p.res (.ref (L.A 13)) (.int p.at_))))) := by
  rw [put_now]
  exact h.setMach hI n p.res p.at_
theorem Mach.setW (h : Mach L p H) (hI : L.Inj) (l : List V) : Mach L { p with w := l } (upd H (L.A 3) (.lst l)) :=
  h.to hI (by decide) rfl fun i hi q => by (apply img_same (h78 := hi) (hij := q) <;> first | exact .inr rfl | exact .inl rfl | exact .inr ⟨rfl, rfl, rfl⟩ | exact fun _ _ => .inr rfl)
theorem Mach.setI (h : Mach L p H) (hI : L.Inj) (l : List V) : Mach L { p with i := l } (upd H (L.A 4) (.lst l)) :=
  h.to hI (by decide) rfl fun i hi q => by (apply img_same (h78 := hi) (hij := q) <;> first | exact .inr rfl | exact .inl rfl | exact .inr ⟨rfl, rfl, rfl⟩ | exact fun _ _ => .inr rfl)
theorem Mach.setQ (h : Mach L p H) (hI : L.Inj) (l : List V) : Mach L { p with q := l } (upd H (L.A 5) (.lst l)) :=
  h.to hI (by decide) rfl fun i hi q => by (apply img_same (h78 := hi) (hij := q) <;> first | exact .inr rfl | exact .inl rfl | exact .inr ⟨rfl, rfl, rfl⟩ | exact fun _ _ => .inr rfl)
theorem Mach.setM (h : Mach L p H) (hI : L.Inj) (l : List V) : Mach L { p with m := l } (upd H (L.A 6) (.lst l)) :=
  h.to hI (by decide) rfl fun i hi q => by (apply img_same (h78 := hi) (hij := q) <;> first | exact .inr rfl | exact .inl rfl | exact .inr ⟨rfl, rfl, rfl⟩ | exact fun _ _ => .inr rfl)
theorem Mach.setT (h : Mach L p H) (hI : L.Inj) (l : List V) : Mach L { p with t := l } (upd H (L.A 7) (.lst l)) :=
  h.to hI (by decide) rfl fun i hi q => by (apply img_same (h78 := hi) (hij := q) <;> first | exact .inr rfl | exact .inl rfl | exact .inr ⟨rfl, rfl, rfl⟩ | exact fun _ _ => .inr rfl)
theorem Mach.setC (h : Mach L p H) (hI : L.Inj) (l : List V) : Mach L { p with c := l } (upd H (L.A 8) (.lst l)) :=
  h.to hI (by decide) rfl fun i hi q => by (apply img_same (h78 := hi) (hij := q) <;> first | exact .inr rfl | exact .inl rfl | exact .inr ⟨rfl, rfl, rfl⟩ | exact fun _ _ => .inr rfl)
theorem Mach.setE (h : Mach L p H) (hI : L.Inj) (l : List V) : Mach L { p with e := l } (upd H (L.A 9) (.lst l)) :=
  h.to hI (by decide) rfl fun i hi q => by (apply img_same (h78 := hi) (hij := q) <;> first | exact .inr rfl | exact .inl rfl | exact .inr ⟨rfl, rfl, rfl⟩ | exact fun _ _ => .inr rfl)
theorem Mach.setV (h : Mach L p H) (hI : L.Inj) (l : List V) : Mach L { p with v := l } (upd H (L.A 10) (.lst l)) :=
  h.to hI (by decide) rfl fun i hi q => by (apply img_same (h78 := hi) (hij := q) <;> first | exact .inr rfl | exact .inl rfl | exact .inr ⟨rfl, rfl, rfl⟩ | exact fun _ _ => .inr rfl)
theorem Mach.setP (h : Mach L p H) (hI : L.Inj) {l : List Addr} {xs : List V} (e : xs = l.map V.ref) : Mach L { p with pb := l } (upd H (L.A 13) (.lst xs)) :=
  h.to hI (by decide) (by rw [e]; rfl) fun i hi q => by (apply img_same (h78 := hi) (hij := q) <;> first | exact .inr rfl | exact .inl rfl | exact .inr ⟨rfl, rfl, rfl⟩ | exact fun _ _ => .inr rfl)
def upN {α : Type} (f : Nat → α) (n : Nat) (x : α) : Nat → α := fun k => if k = n then x else f k
theorem Mach.setTim (h : Mach L p H) (hI : L.Inj) {n : Nat} (hn : n < 32) {t : Sf47.Tim} (e : H' (L.A (n + 14)) = some (.ins L.CT (L.D (n + 14)) (timF t))) (o : ∀ b, b ≠ L.A (n + 14) → H' b = H b) : Mach L { p with tim := upN p.tim n t } H' := by
  refine h.at hI (j := n + 14) (by omega) ?_ o fun i hi q => ?_
  · rw [img_tim _ _ hn, e]
    show _ = some (HO.ins _ _ (timF (upN p.tim n t n)))
    unfold upN
    rw [if_pos rfl]
  · have key : ∀ k, n + 14 = k + 14 ∨ { p with tim := upN p.tim n t }.tim k = p.tim k := fun k => by
      by_cases z : k = n
      · exact .inl (by rw [z])
      · exact .inr (if_neg z)
    apply img_same (h78 := hi) (hij := q) <;> first | exact fun k _ => key k | exact .inr rfl | exact .inl rfl | exact .inr ⟨rfl, rfl, rfl⟩ | exact fun _ _ => .inr rfl
theorem Mach.setCnt (h : Mach L p H) (hI : L.Inj) {n : Nat} (hn : n < 32) {t : Sf47.Count} (e : H' (L.A (n + 46)) = some (.ins L.CC (L.D (n + 46)) (cntF t))) (o : ∀ b, b ≠ L.A (n + 46) → H' b = H b) : Mach L { p with cnt := upN p.cnt n t } H' := by
  refine h.at hI (j := n + 46) (by omega) ?_ o fun i hi q => ?_
  · rw [img_cnt, e]
    show _ = some (HO.ins _ _ (cntF (upN p.cnt n t n)))
    unfold upN
    rw [if_pos rfl]
  · have key : ∀ k, n + 46 = k + 46 ∨ { p with cnt := upN p.cnt n t }.cnt k = p.cnt k := fun k => by
      by_cases z : k = n
      · exact .inl (by rw [z])
      · exact .inr (if_neg z)
    apply img_same (h78 := hi) (hij := q) <;> first | exact fun k _ => key k | exact .inr rfl | exact .inl rfl | exact .inr ⟨rfl, rfl, rfl⟩ | exact fun _ _ => .inr rfl
end
/-! ### the machine of a state -/
def pmOf (s : Sf47.St) (pb : List Addr) (n : Nat) : PM where
  now := s.now
  res := resV s.res
  at_ := n
  pb := pb
  w := s.words.map V.int
  i := (List.range 64).map fun k => .bl (s.ins.testBit k)
  q := s.q.map V.bl
  m := s.m.map V.bl
  t := s.timers.map fun t => .bl t.on
  c := s.counts.map fun c => .bl c.on
  e := s.timers.map fun t => .int t.time
  v := s.counts.map fun c => .int c.value
  tim := fun k => s.timers.getD k Sf47.noTim
  cnt := fun k => s.counts.getD k Sf47.noCount
def cellIx : Sf47.Bit ⊕ Sf47.Word → Nat
  | .inl (.i _) => 4
  | .inl (.q _) => 5
  | .inl (.m _) => 6
  | .inl (.t _) => 7
  | .inl (.c _) => 8
  | .inl (.lit _) => 2
  | .inr (.w _) => 3
  | .inr (.e _) => 9
  | .inr (.v _) => 10
  | .inr (.lit _) => 0
/-- an operand's list and its place there -/
def CellsAt (L : Lay) (H : Hp) (x : Sf47.Bit ⊕ Sf47.Word) (cl : V) (ix : Int) : Prop := match x with
  | .inr (.lit z) => ix = 0 ∧ ∃ q, cl = .ref q ∧ H q = some (.lst [.int z]) ∧ ∀ j, j < 78 → q ≠ L.A j
  | x => cl = .ref (L.A (cellIx x)) ∧ ix = (opKV x).2
theorem map_at {α : Type} {f : α → V} {l : List α} {n : Nat} {d : α} (h : n < l.length) : atI (l.map f) (n : Int) = some (f (l.getD n d)) :=
  atI_nat (by rw [List.getElem?_map, List.getElem?_eq_getElem h, List.getD_eq_getElem?_getD, List.getElem?_eq_getElem h]; rfl)
theorem cell_read {L : Lay} {H : Hp} {s : Sf47.St} {pb : List Addr} {n : Nat} {x : Sf47.Bit ⊕ Sf47.Word} {cl : V} {ix : Int} (h : Mach L (pmOf s pb n) H) (c : CellsAt L H x cl ix) (O : okOp x) (G : Good s) :
    ∃ (a : Addr) (xs : List V), cl = .ref a ∧ H a = some (.lst xs) ∧ atI xs ix = some (valV (s.value x)) := by
  rcases x with (n | n | n | n | n | b) | (n | n | n | z)
  · obtain ⟨rfl, rfl⟩ := c
    refine ⟨_, _, rfl, h 4 (by decide), ?_⟩
    have O : n < 64 := O
    have := map_at (f := fun k => V.bl (s.ins.testBit k)) (l := List.range 64) (n := n) (d := 0) (by rw [List.length_range]; exact O)
    rw [List.getD_eq_getElem?_getD, List.getElem?_range O] at this
    exact this
  · obtain ⟨rfl, rfl⟩ := c
    exact ⟨_, _, rfl, h 5 (by decide), map_at (by rw [G.q]; exact O)⟩
  · obtain ⟨rfl, rfl⟩ := c
    exact ⟨_, _, rfl, h 6 (by decide), map_at (by rw [G.m]; exact O)⟩
  · obtain ⟨rfl, rfl⟩ := c
    exact ⟨_, _, rfl, h 7 (by decide), map_at (f := fun t : Sf47.Tim => V.bl t.on) (by rw [G.t]; exact O)⟩
  · obtain ⟨rfl, rfl⟩ := c
    exact ⟨_, _, rfl, h 8 (by decide), map_at (f := fun t : Sf47.Count => V.bl t.on) (by rw [G.c]; exact O)⟩
  · obtain ⟨rfl, rfl⟩ := c
    cases b
    · exact ⟨_, _, rfl, h 2 (by decide), rfl⟩
    · exact ⟨_, _, rfl, h 2 (by decide), rfl⟩
  · obtain ⟨rfl, rfl⟩ := c
    exact ⟨_, _, rfl, h 3 (by decide), map_at (by rw [G.w]; exact O)⟩
  · obtain ⟨rfl, rfl⟩ := c
    exact ⟨_, _, rfl, h 9 (by decide), map_at (f := fun t : Sf47.Tim => V.int t.time) (by rw [G.t]; exact O)⟩
  · obtain ⟨rfl, rfl⟩ := c
    exact ⟨_, _, rfl, h 10 (by decide), map_at (f := fun t : Sf47.Count => V.int t.value) (by rw [G.c]; exact O)⟩
  · obtain ⟨rfl, q, rfl, e, _⟩ := c
    exact ⟨_, _, rfl, e, rfl⟩
theorem ixN_at {n j : Nat} (hj : j < n) : ixN n (j : Int) = some j := by
  unfold ixN
  rw [if_pos (by omega), if_pos (by omega)]
  simp
theorem map_over {α : Type} (f : α → V) (l : List α) (n : Nat) (x : α) : (Sf47.over l n x).map f = (l.map f).set n (f x) := by rw [over_set, List.map_set]
theorem cell_bit {L : Lay} {H : Hp} {s : Sf47.St} {pb : List Addr} {n : Nat} {b : Sf47.Bit} {cl : V} {ix : Int} (hI : L.Inj) (h : Mach L (pmOf s pb n) H) (c : CellsAt L H (.inl b) cl ix) (wr : Sf47.writable b = true) (O : okOp (.inl b)) (G : Good s) (x : Bool) :
    ∃ (a : Addr) (xs : List V) (k : Nat), cl = .ref a ∧ H a = some (.lst xs) ∧ ixN xs.length ix = some k ∧ Mach L (pmOf (s.setBit b x) pb n) (upd H a (.lst (xs.set k (.bl x)))) ∧ Frame L H (upd H a (.lst (xs.set k (.bl x)))) := by
  cases b with
  | q k =>
    obtain ⟨rfl, rfl⟩ := c
    refine ⟨_, _, k, rfl, h 5 (by decide), ixN_at (by show k < (s.q.map V.bl).length; rw [List.length_map, G.q]; exact O), ?_, Frame.put (j := 5) (by decide)⟩
    show Mach L { pmOf s pb n with q := (Sf47.over s.q k x).map V.bl } (upd H (L.A 5) (.lst ((s.q.map V.bl).set k (.bl x))))
    rw [map_over]
    exact h.setQ hI _
  | m k =>
    obtain ⟨rfl, rfl⟩ := c
    refine ⟨_, _, k, rfl, h 6 (by decide), ixN_at (by show k < (s.m.map V.bl).length; rw [List.length_map, G.m]; exact O), ?_, Frame.put (j := 6) (by decide)⟩
    show Mach L { pmOf s pb n with m := (Sf47.over s.m k x).map V.bl } (upd H (L.A 6) (.lst ((s.m.map V.bl).set k (.bl x))))
    rw [map_over]
    exact h.setM hI _
  | _ => cases wr
theorem cell_word {L : Lay} {H : Hp} {s : Sf47.St} {pb : List Addr} {n k : Nat} {cl : V} {ix : Int} (hI : L.Inj) (h : Mach L (pmOf s pb n) H) (c : CellsAt L H (.inr (.w k)) cl ix) (O : okOp (.inr (.w k))) (G : Good s) (x : Int) :
    ∃ (a : Addr) (xs : List V) (j : Nat), cl = .ref a ∧ H a = some (.lst xs) ∧ ixN xs.length ix = some j ∧ Mach L (pmOf { s with words := Sf47.over s.words k x } pb n) (upd H a (.lst (xs.set j (.int x)))) ∧ Frame L H (upd H a (.lst (xs.set j (.int x)))) := by
  obtain ⟨rfl, rfl⟩ := c
  refine ⟨_, _, k, rfl, h 3 (by decide), ixN_at (by show k < (s.words.map V.int).length; rw [List.length_map, G.w]; exact O), ?_, Frame.put (j := 3) (by decide)⟩
  show Mach L { pmOf s pb n with w := (Sf47.over s.words k x).map V.int } (upd H (L.A 3) (.lst ((s.words.map V.int).set k (.int x))))
  rw [map_over]
  exact h.setW hI _
/-! ### what is put by -/
def PutAt (H : Hp) (a : Addr) (x : Sf47.Bin × Sf47.Val) : Prop := H a = some (.tup [.str (S (binName x.1)), valV x.2])
def Puts (H : Hp) (pb : List Addr) (put : List (Sf47.Bin × Sf47.Val)) : Prop := Paired (PutAt H) pb.reverse put
theorem Mach.noTup {L : Lay} {p : PM} {H : Hp} (h : Mach L p H) {a : Addr} {xs : List V} (e : H a = some (.tup xs)) : ∀ j, j < 78 → a ≠ L.A j := fun j hj z => by
  rw [z, h j hj] at e
  have e := Option.some.inj e
  rcases j with _ | _ | _ | _ | _ | _ | _ | _ | _ | _ | _ | _ | _ | _ | n
  all_goals first | (cases e; done) | skip
  have e : (if n < 32 then HO.ins L.CT (L.D (n + 14)) (timF (p.tim n)) else .ins L.CC (L.D (n + 14)) (cntF (p.cnt (n - 32)))) = HO.tup xs := e
  split at e <;> cases e
theorem Puts.frame {L : Lay} {p : PM} {H H' : Hp} {pb : List Addr} {put : List (Sf47.Bin × Sf47.Val)} (h : Mach L p H) (f : Frame L H H') (q : Puts H pb put) : Puts H' pb put := Paired.mapP q fun a x e => f a _ e (h.noTup e)
theorem Puts.push {H : Hp} {pb : List Addr} {put : List (Sf47.Bin × Sf47.Val)} {t : Addr} {x : Sf47.Bin × Sf47.Val} (q : Puts H pb put) (e : PutAt H t x) : Puts H (pb ++ [t]) (x :: put) := by
  unfold Puts
  rw [List.reverse_append]
  exact .cons e q
theorem Puts.len {H : Hp} {pb : List Addr} {put : List (Sf47.Bin × Sf47.Val)} (q : Puts H pb put) : pb.length = put.length := by
  have := Paired.length q
  rwa [List.length_reverse] at this
theorem Puts.pop {H : Hp} {pb : List Addr} {x : Sf47.Bin × Sf47.Val} {r : List (Sf47.Bin × Sf47.Val)} (q : Puts H pb (x :: r)) : ∃ t pb', pb = pb' ++ [t] ∧ PutAt H t x ∧ Puts H pb' r := by
  unfold Puts at q
  cases e : pb.reverse with
  | nil => rw [e] at q; cases q
  | cons t l =>
    rw [e] at q
    cases q with
    | cons a b =>
      refine ⟨t, l.reverse, ?_, a, ?_⟩
      · have := congrArg List.reverse e
        rw [List.reverse_reverse, List.reverse_cons] at this
        exact this
      · unfold Puts
        rw [List.reverse_reverse]
        exact b
end Sl
set_option Elab.async false
set_option linter.all false
set_option maxRecDepth 100000
set_option maxHeartbeats 4000000
namespace Sl
open PySem PySem.Spec PyProof.Rows L2 SlM
/-! ### the errors of a run -/
/-- what the text says of Fault, at CF, and its __init__, at gF -/
structure FaultTxt (K : PySem.W.Frag) (mg : Str → Option Value) (CF gF : Addr) (fdF : FuncData) : Prop where
  gC : mg "Fault" = some (.ref CF)
  rd : PySem.W.readsIn K CF (.type "type") = true
  ga : PySem.W.specialIn K (.ref CF) "__getattribute__" = some (some (.builtin "type.__getattribute__"))
  fc : PySem.W.findCls K (.ref CF) (.type "type") "__init__" = some (.val (.ref gF))
  kp : PySem.W.keepIn K (.ref gF) = true
  fi : Fun K "__init__" "Fault.__init__" s_fault_init gF fdF
/-- .. and of a class under it -/
structure KindTxt (K : PySem.W.Frag) (mg : Str → Option Value) (CF : Addr) (x qual : Str) (st : Stmt) (C fI : Addr) (fdI : FuncData) : Prop where
  ex : ExC K C
  gC : mg x = some (.ref C)
  nN : PySem.W.findIn K (.ref C) "number" = some none
  iC : PySem.W.findIn K (.ref C) "__init__" = some (some (.ref fI))
  tI : PySem.W.typeIn K (.ref fI) = some (.type "function")
  fi : Fun K "__init__" qual st fI fdI
  te : PySem.W.exmOne K (.ref C) (.ref CF) = some true
section
variable {P : Program} {w : World} {K : PySem.W.Frag} {mg : Str → Option Value} {base : Heap} {CF gF : Addr} {fdF : FuncData}
def spFI (K : PySem.W.Frag) : Sp := fun vs H Q _ => ∃ (a C : Addr) (v : V), vs = [.ref a, v] ∧ ExC K C ∧ PySem.W.findIn K (.ref C) "number" = some none ∧ H a = some (exo a C none) ∧ ∀ dx, H dx = none → dx ≠ a → Q .non (upd (upd H dx (exd dx [("number", v)])) a (exo a C (some dx)))
theorem sc_fi : FnScope ["self", "number"] ["self", "number"] (defScope s_fault_init) := ⟨rfl, rfl, rfl, by decide +kernel, rfl, by decide +kernel, by decide +kernel⟩
theorem ok_fi (T : FaultTxt K mg CF gF fdF) : FnOk P w K mg base CX0 1 gF fdF ["self", "number"] (spFI K) := by
  refine T.fi.ok sc_fi (fun vs H Q E h => ?_) (fun cdv A outer s H vs Q E hr h => ?_)
  · obtain ⟨a, C, v, rfl, _⟩ := h
    rfl
  · refine ⟨_, pss_one (ps_put1 (pv 0) (pv 1)), ?_⟩
    obtain ⟨a, C, v, rfl, T', no, e, k⟩ := h
    exact ⟨_, rfl, _, rfl, a, C, rfl, T', no, e, fun dx n ne => k dx n ne⟩
theorem b_fi (T : FaultTxt K mg CF gF fdF) : Binds K fdF ["self", "number"] [] := T.fi.binds fun _ _ _ _ _ _ us hl => match us, hl with | [_, _], _ => rfl
def spKI (K : PySem.W.Frag) (n : Int) : Sp := fun vs H Q _ => ∃ (a C : Addr), vs = [.ref a] ∧ ExC K C ∧ PySem.W.findIn K (.ref C) "number" = some none ∧ H a = some (exo a C none) ∧ ∀ dx, H dx = none → dx ≠ a → Q .non (upd (upd H dx (exd dx [("number", .int n)])) a (exo a C (some dx)))
theorem sc_k1 : FnScope ["self"] ["self"] (defScope s_wrongkind_init) := ⟨rfl, rfl, rfl, by decide +kernel, rfl, by decide +kernel, by decide +kernel⟩
theorem ok_k1 {f : Addr} {fd : FuncData} (F : Fun K "__init__" "WrongKind.__init__" s_wrongkind_init f fd) (T : FaultTxt K mg CF gF fdF) : FnOk P w K mg base CX0 2 f fd ["self"] (spKI K 1) := by
  refine F.ok sc_k1 (fun vs H Q E h => ?_) (fun cdv A outer s H vs Q E hr h => ?_)
  · obtain ⟨a, C, rfl, _⟩ := h
    rfl
  · refine ⟨_, pss_one (ps_expr (pe_baseInit (by rfl) T.gC T.rd T.ga T.fc T.kp (ok_fi T) hr (b_fi T) pass0 (pa_cons (pv 0) (pa_cons pe_int pa_nil)))), ?_⟩
    obtain ⟨a, C, rfl, T', no, e, k⟩ := h
    exact ⟨_, rfl, a, C, _, rfl, T', no, e, fun dx n ne => k dx n ne⟩
theorem sc_k2 : FnScope ["self"] ["self"] (defScope s_wordoutofrange_init) := ⟨rfl, rfl, rfl, by decide +kernel, rfl, by decide +kernel, by decide +kernel⟩
theorem ok_k2 {f : Addr} {fd : FuncData} (F : Fun K "__init__" "WordOutOfRange.__init__" s_wordoutofrange_init f fd) (T : FaultTxt K mg CF gF fdF) : FnOk P w K mg base CX0 2 f fd ["self"] (spKI K 2) := by
  refine F.ok sc_k2 (fun vs H Q E h => ?_) (fun cdv A outer s H vs Q E hr h => ?_)
  · obtain ⟨a, C, rfl, _⟩ := h
    rfl
  · refine ⟨_, pss_one (ps_expr (pe_baseInit (by rfl) T.gC T.rd T.ga T.fc T.kp (ok_fi T) hr (b_fi T) pass0 (pa_cons (pv 0) (pa_cons pe_int pa_nil)))), ?_⟩
    obtain ⟨a, C, rfl, T', no, e, k⟩ := h
    exact ⟨_, rfl, a, C, _, rfl, T', no, e, fun dx n ne => k dx n ne⟩
theorem sc_k3 : FnScope ["self"] ["self"] (defScope s_divisorzero_init) := ⟨rfl, rfl, rfl, by decide +kernel, rfl, by decide +kernel, by decide +kernel⟩
theorem ok_k3 {f : Addr} {fd : FuncData} (F : Fun K "__init__" "DivisorZero.__init__" s_divisorzero_init f fd) (T : FaultTxt K mg CF gF fdF) : FnOk P w K mg base CX0 2 f fd ["self"] (spKI K 3) := by
  refine F.ok sc_k3 (fun vs H Q E h => ?_) (fun cdv A outer s H vs Q E hr h => ?_)
  · obtain ⟨a, C, rfl, _⟩ := h
    rfl
  · refine ⟨_, pss_one (ps_expr (pe_baseInit (by rfl) T.gC T.rd T.ga T.fc T.kp (ok_fi T) hr (b_fi T) pass0 (pa_cons (pv 0) (pa_cons pe_int pa_nil)))), ?_⟩
    obtain ⟨a, C, rfl, T', no, e, k⟩ := h
    exact ⟨_, rfl, a, C, _, rfl, T', no, e, fun dx n ne => k dx n ne⟩
theorem sc_k4 : FnScope ["self"] ["self"] (defScope s_scantoolong_init) := ⟨rfl, rfl, rfl, by decide +kernel, rfl, by decide +kernel, by decide +kernel⟩
theorem ok_k4 {f : Addr} {fd : FuncData} (F : Fun K "__init__" "ScanTooLong.__init__" s_scantoolong_init f fd) (T : FaultTxt K mg CF gF fdF) : FnOk P w K mg base CX0 2 f fd ["self"] (spKI K 4) := by
  refine F.ok sc_k4 (fun vs H Q E h => ?_) (fun cdv A outer s H vs Q E hr h => ?_)
  · obtain ⟨a, C, rfl, _⟩ := h
    rfl
  · refine ⟨_, pss_one (ps_expr (pe_baseInit (by rfl) T.gC T.rd T.ga T.fc T.kp (ok_fi T) hr (b_fi T) pass0 (pa_cons (pv 0) (pa_cons pe_int pa_nil)))), ?_⟩
    obtain ⟨a, C, rfl, T', no, e, k⟩ := h
    exact ⟨_, rfl, a, C, _, rfl, T', no, e, fun dx n ne => k dx n ne⟩
/-- what raising it leaves -/
def faF (n : Int) : List (Str × V) := [("number", .int n)]
theorem mk_fault {X : Cx} {x qual : Str} {st : Stmt} {C fI : Addr} {fdI : FuncData} {n : Int} {p pos : Pos} (T : KindTxt X.K X.mg CF x qual st C fI fdI) (F : FnOk X.prog X.w X.K X.mg X.base CX0 2 fI fdI ["self"] (spKI X.K n)) (bI : Binds X.K fdI ["self"] []) (hr : Room 3 X.A) (hg : Gl X x) (hdb : (x == ("__debug__" : Str)) = false := by decide) :
    L2N.PMk X (.Call (.Name x p) [] [] pos) (fun _ H Q => ∀ d, H d = none → Q (.ref C) (some d) (upd H d (.xd (faF n)))) := by
  have M := pmk_ex0 (p := p) (pos := pos) T.ex T.iC T.tI F hr bI (fun _ _ _ _ _ _ _ z => z.elim) hg T.gC hdb
  intro pins s σ H Q I h
  refine M pins s σ H Q I fun a na => ?_
  refine ⟨a, C, rfl, T.ex, T.nN, upd_same, fun dx n1 ne => ⟨rfl, dx, faF n, upd_same, ?_, ?_, ?_⟩⟩
  · rw [upd_ne ne]
    exact upd_same
  · rw [upd_ne ne] at n1
    exact n1
  · rw [upd_ne ne] at n1
    have e : upd (del (upd (upd (upd H a (exo a C none)) dx (exd dx [("number", .int n)])) a (exo a C (some dx))) a) dx (.xd (faF n)) = upd H dx (.xd (faF n)) := by
      funext b
      by_cases hb : b = dx
      · subst hb
        rw [upd_same, upd_same]
      · rw [upd_ne hb, upd_ne hb]
        by_cases ha : b = a
        · rw [ha, del_same, na]
        · rw [del_ne ha, upd_ne ha, upd_ne hb, upd_ne ha]
    rw [e]
    exact h dx n1
/-- the errors by their numbers -/
structure Faults (K : PySem.W.Frag) (mg : Str → Option Value) (CF : Addr) (fc : Nat → Addr) : Prop where
  fa : ∃ gF fdF, FaultTxt K mg CF gF fdF
  k1 : ∃ fI fdI, KindTxt K mg CF "WrongKind" "WrongKind.__init__" s_wrongkind_init (fc 1) fI fdI
  k2 : ∃ fI fdI, KindTxt K mg CF "WordOutOfRange" "WordOutOfRange.__init__" s_wordoutofrange_init (fc 2) fI fdI
  k3 : ∃ fI fdI, KindTxt K mg CF "DivisorZero" "DivisorZero.__init__" s_divisorzero_init (fc 3) fI fdI
  k4 : ∃ fI fdI, KindTxt K mg CF "ScanTooLong" "ScanTooLong.__init__" s_scantoolong_init (fc 4) fI fdI
theorem mk_1 {X : Cx} {fc : Nat → Addr} {p pos : Pos} (T : Faults X.K X.mg CF fc) (hr : Room 3 X.A) (hg : Gl X "WrongKind" := by rfl) : L2N.PMk X (.Call (.Name "WrongKind" p) [] [] pos) (fun _ H Q => ∀ d, H d = none → Q (.ref (fc 1)) (some d) (upd H d (.xd (faF 1)))) := by
  obtain ⟨gF, fdF, F⟩ := T.fa
  obtain ⟨fI, fdI, k⟩ := T.k1
  exact mk_fault k (ok_k1 k.fi F) (k.fi.binds fun _ _ _ _ _ _ us hl => match us, hl with | [_], _ => rfl) hr hg
theorem mk_2 {X : Cx} {fc : Nat → Addr} {p pos : Pos} (T : Faults X.K X.mg CF fc) (hr : Room 3 X.A) (hg : Gl X "WordOutOfRange" := by rfl) : L2N.PMk X (.Call (.Name "WordOutOfRange" p) [] [] pos) (fun _ H Q => ∀ d, H d = none → Q (.ref (fc 2)) (some d) (upd H d (.xd (faF 2)))) := by
  obtain ⟨gF, fdF, F⟩ := T.fa
  obtain ⟨fI, fdI, k⟩ := T.k2
  exact mk_fault k (ok_k2 k.fi F) (k.fi.binds fun _ _ _ _ _ _ us hl => match us, hl with | [_], _ => rfl) hr hg
theorem mk_3 {X : Cx} {fc : Nat → Addr} {p pos : Pos} (T : Faults X.K X.mg CF fc) (hr : Room 3 X.A) (hg : Gl X "DivisorZero" := by rfl) : L2N.PMk X (.Call (.Name "DivisorZero" p) [] [] pos) (fun _ H Q => ∀ d, H d = none → Q (.ref (fc 3)) (some d) (upd H d (.xd (faF 3)))) := by
  obtain ⟨gF, fdF, F⟩ := T.fa
  obtain ⟨fI, fdI, k⟩ := T.k3
  exact mk_fault k (ok_k3 k.fi F) (k.fi.binds fun _ _ _ _ _ _ us hl => match us, hl with | [_], _ => rfl) hr hg
theorem mk_4 {X : Cx} {fc : Nat → Addr} {p pos : Pos} (T : Faults X.K X.mg CF fc) (hr : Room 3 X.A) (hg : Gl X "ScanTooLong" := by rfl) : L2N.PMk X (.Call (.Name "ScanTooLong" p) [] [] pos) (fun _ H Q => ∀ d, H d = none → Q (.ref (fc 4)) (some d) (upd H d (.xd (faF 4)))) := by
  obtain ⟨gF, fdF, F⟩ := T.fa
  obtain ⟨fI, fdI, k⟩ := T.k4
  exact mk_fault k (ok_k4 k.fi F) (k.fi.binds fun _ _ _ _ _ _ us hl => match us, hl with | [_], _ => rfl) hr hg
/-- an error n is wished for from H on -/
def FOut (fc : Nat → Addr) (E : XK) (H : Hp) (n : Nat) : Prop := ∀ (d : Addr) (H' : Hp), Same H H' → H d = none → H' d = some (.xd (faF n)) → E (.ref (fc n)) (some d) H'
theorem FOut.now {fc : Nat → Addr} {E : XK} {H : Hp} {n : Nat} (h : FOut fc E H n) {d : Addr} (nd : H d = none) : E (.ref (fc n)) (some d) (upd H d (.xd (faF n))) := h d _ (same_upd (Same.refl H) nd) nd upd_same
theorem FOut.later {fc : Nat → Addr} {E : XK} {H H1 : Hp} {n : Nat} (h : FOut fc E H n) (s : Same H H1) : FOut fc E H1 n := fun d H' s' nd e => h d H' (s.trans s') (s.free nd) e
end
end Sl
set_option Elab.async false
set_option linter.all false
set_option maxRecDepth 100000
set_option maxHeartbeats 4000000
namespace Sl
open PySem PySem.Spec PyProof.Rows L2 SlM
section
variable {P : Program} {w : World} {K : PySem.W.Frag} {mg : Str → Option Value} {base : Heap} {CF : Addr} {fc : Nat → Addr}
/-! ### bit_of, word_of, in_range, one_more, refuse_zero -/
def spBit (fc : Nat → Addr) : Sp := fun vs H Q E => ∃ r : Option Sf47.Val, vs = [resV r] ∧ (∀ b, r = some (.inl b) → Q (.bl b) H) ∧ ((∀ b, r ≠ some (.inl b)) → FOut fc E H 1)
theorem sc_bit : FnScope ["value"] ["value"] (defScope s_bit_of) := ⟨rfl, rfl, rfl, by decide +kernel, rfl, by decide +kernel, by decide +kernel⟩
theorem ok_bit {f : Addr} {fd : FuncData} (F : Fun K "bit_of" "bit_of" s_bit_of f fd) (T : Faults K mg CF fc) (hi : mg "isinstance" = none) (hb : mg "bool" = none) : FnOk P w K mg base (L2N.CX P w) 4 f fd ["value"] (spBit fc) := by
  refine okN F sc_bit (fun vs H Q E h => ?_) (fun cdv A outer s H vs Q E hr h => ?_)
  · obtain ⟨r, rfl, _⟩ := h
    rfl
  · refine ⟨_, pss_cons (ps_if (pt_not (pt_val (pe_callB call_isi (by rfl) hi (by decide +kernel) (pa_cons (pv 0) (pa_cons (pe_bltn (v := .ty "bool") (by rfl) hb (by decide +kernel) rfl) pa_nil)))))
        (pss_one (L2N.ps_raise rfl (L2N.takes_of rfl rfl rfl rfl) (mk_1 T hr))) pss_nil) (pss_one (ps_ret (pv 0))), ?_⟩
    obtain ⟨r, rfl, kS, kF⟩ := h
    rcases r with _ | (b | z)
    · exact ⟨_, rfl, _, _, .type "NoneType", _, false, rfl, .ty "bool", .base .non, kit_ty (by decide +kernel), _, rfl, iteT fun d nd => (kF fun b e => by cases e).now nd⟩
    · exact ⟨_, rfl, _, _, .type "bool", _, true, rfl, .ty "bool", .base (.bl _), kit_ty (by decide +kernel), _, rfl, iteF ⟨_, rfl, kS b rfl⟩⟩
    · exact ⟨_, rfl, _, _, .type "int", _, false, rfl, .ty "bool", .base (.int _), kit_ty (by decide +kernel), _, rfl, iteT fun d nd => (kF fun b e => by cases e).now nd⟩
def spWord (fc : Nat → Addr) : Sp := fun vs H Q E => ∃ r : Option Sf47.Val, vs = [resV r] ∧ (∀ z, r = some (.inr z) → Q (.int z) H) ∧ ((∀ z, r ≠ some (.inr z)) → FOut fc E H 1)
theorem sc_wrd : FnScope ["value"] ["value"] (defScope s_word_of_results) := ⟨rfl, rfl, rfl, by decide +kernel, rfl, by decide +kernel, by decide +kernel⟩
theorem ok_wrd {f : Addr} {fd : FuncData} (F : Fun K "word_of" "word_of" s_word_of_results f fd) (T : Faults K mg CF fc) (hi : mg "isinstance" = none) (hb : mg "bool" = none) : FnOk P w K mg base (L2N.CX P w) 4 f fd ["value"] (spWord fc) := by
  refine okN F sc_wrd (fun vs H Q E h => ?_) (fun cdv A outer s H vs Q E hr h => ?_)
  · obtain ⟨r, rfl, _⟩ := h
    rfl
  · refine ⟨_, pss_cons (ps_if (PW.pt (pw_or (pt_cmpR op_isN (pv 0) pe_non (nomark _)) (pw_or1 (pt_val (pe_callB call_isi (by rfl) hi (by decide +kernel) (pa_cons (pv 0) (pa_cons (pe_bltn (v := .ty "bool") (by rfl) hb (by decide +kernel) rfl) pa_nil)))))))
        (pss_one (L2N.ps_raise rfl (L2N.takes_of rfl rfl rfl rfl) (mk_1 T hr))) pss_nil) (pss_one (ps_ret (pv 0))), ?_⟩
    obtain ⟨r, rfl, kS, kF⟩ := h
    rcases r with _ | (b | z)
    · exact ⟨_, rfl, rfl, _, rfl, if_t (decide_eq_true rfl) (iteT fun d nd => (kF fun b e => by cases e).now nd)⟩
    · exact ⟨_, rfl, rfl, _, rfl, if_f (decide_eq_false (by intro z; cases z)) ⟨_, rfl, _, _, .type "bool", _, true, rfl, .ty "bool", .base (.bl _), kit_ty (by decide +kernel), _, rfl, iteT fun d nd => (kF fun b e => by cases e).now nd⟩⟩
    · exact ⟨_, rfl, rfl, _, rfl, if_f (decide_eq_false (by intro z; cases z)) ⟨_, rfl, _, _, .type "int", _, false, rfl, .ty "bool", .base (.int _), kit_ty (by decide +kernel), _, rfl, iteF ⟨_, rfl, kS z rfl⟩⟩⟩
def spRange (fc : Nat → Addr) : Sp := fun vs H Q E => ∃ z : Int, vs = [.int z] ∧ (Sf47.fits z = true → Q (.int z) H) ∧ (¬ Sf47.fits z = true → FOut fc E H 2)
theorem sc_rng : FnScope ["word"] ["word"] (defScope s_in_range) := ⟨rfl, rfl, rfl, by decide +kernel, rfl, by decide +kernel, by decide +kernel⟩
theorem ok_rng {f : Addr} {fd : FuncData} (F : Fun K "in_range" "in_range" s_in_range f fd) (T : Faults K mg CF fc) (cB : TxtC mg "WORD_BOUND" (.int 2147483648)) : FnOk P w K mg base (L2N.CX P w) 4 f fd ["word"] (spRange fc) := by
  obtain ⟨uB, mB, rB⟩ := cB
  refine okN F sc_rng (fun vs H Q E h => ?_) (fun cdv A outer s H vs Q E hr h => ?_)
  · obtain ⟨z, rfl, _⟩ := h
    rfl
  · refine ⟨_, pss_cons (ps_if (PW.pt (pw_or (pt_cmpR op_lt (pv 0) (pe_un un_neg (pe_glob (by rfl) mB rB)) (nomark _)) (pw_or1 (pt_cmpR op_ge (pv 0) (pe_glob (by rfl) mB rB) (nomark _)))))
        (pss_one (L2N.ps_raise rfl (L2N.takes_of rfl rfl rfl rfl) (mk_2 T hr))) pss_nil) (pss_one (ps_ret (pv 0))), ?_⟩
    obtain ⟨z, rfl, kS, kF⟩ := h
    refine ⟨_, rfl, _, rfl, _, _, rfl, rfl, _, rfl, ?_⟩
    refine ite2 (fun c => iteT fun d nd => (kF fun q => ?_).now nd) fun c => ⟨_, rfl, _, _, rfl, rfl, _, rfl, ?_⟩
    · have c : z < -2147483648 := of_decide_eq_true c
      have := SlM.fits_iff.mp q
      omega
    · have c : ¬ z < -2147483648 := fun q => c (decide_eq_true q)
      refine ite2 (fun c2 => fun d nd => (kF fun q => ?_).now nd) fun c2 => ⟨_, rfl, kS (SlM.fits_iff.mpr ?_)⟩
      · have c2 : (2147483648 : Int) ≤ z := of_decide_eq_true c2
        have := SlM.fits_iff.mp q
        omega
      · have c2 : ¬ (2147483648 : Int) ≤ z := fun q => c2 (decide_eq_true q)
        omega
def spMore : Sp := fun vs H Q _ => ∃ z : Int, vs = [.int z] ∧ Q (.int (min (z + 1) 2147483647)) H
theorem sc_mor : FnScope ["word"] ["word"] (defScope s_one_more) := ⟨rfl, rfl, rfl, by decide +kernel, rfl, by decide +kernel, by decide +kernel⟩
theorem ok_mor {f : Addr} {fd : FuncData} (F : Fun K "one_more" "one_more" s_one_more f fd) (hm : mg "min" = none) (cB : TxtC mg "WORD_BOUND" (.int 2147483648)) : FnOk P w K mg base CX0 1 f fd ["word"] spMore := by
  obtain ⟨uB, mB, rB⟩ := cB
  refine F.ok sc_mor (fun vs H Q E h => ?_) (fun cdv A outer s H vs Q E hr h => ?_)
  · obtain ⟨z, rfl, _⟩ := h
    rfl
  · refine ⟨_, pss_one (ps_ret (pe_callB (call_min2 rfl) (by rfl) hm (by decide +kernel) (pa_cons (pe_op op_add (pv 0) pe_int) (pa_cons (pe_op op_sub (pe_glob (by rfl) mB rB) pe_int) pa_nil)))), ?_⟩
    obtain ⟨z, rfl, k⟩ := h
    refine ⟨_, rfl, _, _, rfl, rfl, _, _, rfl, rfl, _, _, rfl, ?_⟩
    have e : (if (2147483648 : Int) - 1 < z + 1 then (2147483648 : Int) - 1 else z + 1) = min (z + 1) 2147483647 := by
      split <;> omega
    rw [e]
    exact k
def spZero (fc : Nat → Addr) : Sp := fun vs H Q E => ∃ z : Int, vs = [.int z] ∧ (z ≠ 0 → Q .non H) ∧ (z = 0 → FOut fc E H 3)
theorem sc_zer : FnScope ["divisor"] ["divisor"] (defScope s_refuse_zero) := ⟨rfl, rfl, rfl, by decide +kernel, rfl, by decide +kernel, by decide +kernel⟩
theorem ok_zer {f : Addr} {fd : FuncData} (F : Fun K "refuse_zero" "refuse_zero" s_refuse_zero f fd) (T : Faults K mg CF fc) : FnOk P w K mg base (L2N.CX P w) 4 f fd ["divisor"] (spZero fc) := by
  refine okN F sc_zer (fun vs H Q E h => ?_) (fun cdv A outer s H vs Q E hr h => ?_)
  · obtain ⟨z, rfl, _⟩ := h
    rfl
  · refine ⟨_, pss_one (ps_if (pt_cmpR op_eq (pv 0) pe_int (nomark _)) (pss_one (L2N.ps_raise rfl (L2N.takes_of rfl rfl rfl rfl) (mk_3 T hr))) pss_nil), ?_⟩
    obtain ⟨z, rfl, kS, kF⟩ := h
    refine ⟨_, rfl, rfl, _, rfl, ?_⟩
    rw [int_eq]
    exact ite2 (fun c => fun d nd => (kF (of_decide_eq_true c)).now nd) fun c => kS fun q => c (decide_eq_true q)
/-! ### the operations -/
def kindOk : Sf47.Bin → Sf47.Val → Sf47.Val → Prop
  | .logic _ _, .inl _, .inl _ => True
  | .arith _, .inr _, .inr _ => True
  | .cmp _, .inr _, .inr _ => True
  | _, _, _ => False
def spOp (fc : Nat → Addr) (o : Sf47.Bin) : Sp := fun vs H Q E => ∃ a b : Sf47.Val, vs = [valV a, valV b] ∧ kindOk o a b ∧ fitV a ∧ fitV b ∧ (∀ e, o.run a b = .error e → FOut fc E H e) ∧ (∀ v, o.run a b = .ok v → Q (valV v) H)
theorem dec_beq (a b : Int) : decide (a = b) = (a == b) := by
  by_cases c : a = b
  · rw [decide_eq_true c, c, beq_self_eq_true]
  · rw [decide_eq_false c, beq_eq_false_iff_ne.mpr c]
theorem op_len {o : Sf47.Bin} : ∀ vs H Q E, spOp fc o vs H Q E → vs.length = ["left", "right"].length := fun vs H Q E h => by
  obtain ⟨a, b, rfl, _⟩ := h
  rfl
theorem op_bits {l : Sf47.Logic} {n : Bool} {vs : List V} {H : Hp} {Q : VK} {E : XK} (h : spOp fc (.logic l n) vs H Q E) : ∃ a b : Bool, vs = [.bl a, .bl b] ∧ Q (.bl (l.run a (b != n))) H := by
  obtain ⟨a, b, rfl, hk, _, _, _, k⟩ := h
  cases a with
  | inr z => exact hk.elim
  | inl a =>
    cases b with
    | inr z => exact hk.elim
    | inl b => exact ⟨a, b, rfl, k _ rfl⟩
theorem op_words {l : Sf47.Cmp} {vs : List V} {H : Hp} {Q : VK} {E : XK} (h : spOp fc (.cmp l) vs H Q E) : ∃ a b : Int, vs = [.int a, .int b] ∧ Q (.bl (l.run a b)) H := by
  obtain ⟨a, b, rfl, hk, _, _, _, k⟩ := h
  cases a with
  | inl z => exact hk.elim
  | inr a =>
    cases b with
    | inl z => exact hk.elim
    | inr b => exact ⟨a, b, rfl, k _ rfl⟩
theorem op_nums {l : Sf47.Arith} {vs : List V} {H : Hp} {Q : VK} {E : XK} (h : spOp fc (.arith l) vs H Q E) : ∃ a b : Int, vs = [.int a, .int b] ∧ Sf47.fits a = true ∧ Sf47.fits b = true ∧ (∀ e, l.run a b = .error e → FOut fc E H e) ∧ (∀ v, l.run a b = .ok v → Q (valV v) H) := by
  obtain ⟨a, b, rfl, hk, fa, fb, kF, k⟩ := h
  cases a with
  | inl z => exact hk.elim
  | inr a =>
    cases b with
    | inl z => exact hk.elim
    | inr b => exact ⟨a, b, rfl, fa, fb, kF, k⟩
theorem fit_use {z : Int} {H : Hp} {Q : VK} {E : XK} (kF : ∀ e, Sf47.fit z = .error e → FOut fc E H e) (k : ∀ v, Sf47.fit z = .ok v → Q (valV v) H) : (Sf47.fits z = true → Q (.int z) H) ∧ (¬ Sf47.fits z = true → FOut fc E H 2) := by
  unfold Sf47.fit at kF k
  refine ⟨fun h => k (.inr z) (if_pos h), fun h => kF 2 (if_neg h)⟩
theorem sc_both : FnScope ["left", "right"] ["left", "right"] (defScope s_both) := ⟨rfl, rfl, rfl, by decide +kernel, rfl, by decide +kernel, by decide +kernel⟩
theorem ok_both {f : Addr} {fd : FuncData} (F : Fun K "both" "both" s_both f fd) : FnOk P w K mg base (L2N.CX P w) 5 f fd ["left", "right"] (spOp fc (.logic .and false)) := by
  refine okN (k := 4) F sc_both op_len (fun cdv A outer s H vs Q E hr h => ?_)
  refine ⟨_, pss_one (ps_ret (pe_and (pv 0) (pe_one (pv 1)))), ?_⟩
  obtain ⟨a, b, rfl, k⟩ := op_bits h
  refine ⟨_, rfl, _, rfl, ?_⟩
  cases a with
  | true => exact iteT ⟨_, rfl, by cases b <;> exact k⟩
  | false => exact iteF k
theorem sc_either : FnScope ["left", "right"] ["left", "right"] (defScope s_either) := ⟨rfl, rfl, rfl, by decide +kernel, rfl, by decide +kernel, by decide +kernel⟩
theorem ok_either {f : Addr} {fd : FuncData} (F : Fun K "either" "either" s_either f fd) : FnOk P w K mg base (L2N.CX P w) 5 f fd ["left", "right"] (spOp fc (.logic .or false)) := by
  refine okN (k := 4) F sc_either op_len (fun cdv A outer s H vs Q E hr h => ?_)
  refine ⟨_, pss_one (ps_ret (pe_or (pv 0) (pe_one (pv 1)))), ?_⟩
  obtain ⟨a, b, rfl, k⟩ := op_bits h
  refine ⟨_, rfl, _, rfl, ?_⟩
  cases a with
  | true => exact iteT k
  | false => exact iteF ⟨_, rfl, by cases b <;> exact k⟩
theorem sc_differing : FnScope ["left", "right"] ["left", "right"] (defScope s_differing) := ⟨rfl, rfl, rfl, by decide +kernel, rfl, by decide +kernel, by decide +kernel⟩
theorem ok_differing_b {f : Addr} {fd : FuncData} (F : Fun K "differing" "differing" s_differing f fd) : FnOk P w K mg base (L2N.CX P w) 5 f fd ["left", "right"] (spOp fc (.logic .xor false)) := by
  refine okN (k := 4) F sc_differing op_len (fun cdv A outer s H vs Q E hr h => ?_)
  refine ⟨_, pss_one (ps_ret (pe_cmpR op_ne (pv 0) (pv 1) (nomark _))), ?_⟩
  obtain ⟨a, b, rfl, k⟩ := op_bits h
  refine ⟨_, rfl, _, rfl, rfl, ?_⟩
  cases a <;> cases b <;> exact k
theorem ok_differing_w {f : Addr} {fd : FuncData} (F : Fun K "differing" "differing" s_differing f fd) : FnOk P w K mg base (L2N.CX P w) 5 f fd ["left", "right"] (spOp fc (.cmp .ne)) := by
  refine okN (k := 4) F sc_differing op_len (fun cdv A outer s H vs Q E hr h => ?_)
  refine ⟨_, pss_one (ps_ret (pe_cmpR op_ne (pv 0) (pv 1) (nomark _))), ?_⟩
  obtain ⟨a, b, rfl, k⟩ := op_words h
  refine ⟨_, rfl, _, rfl, rfl, ?_⟩
  rw [int_eq, dec_beq]
  exact k
theorem sc_left_alone : FnScope ["left", "right"] ["left", "right"] (defScope s_left_alone) := ⟨rfl, rfl, rfl, by decide +kernel, rfl, by decide +kernel, by decide +kernel⟩
theorem ok_left_alone {f : Addr} {fd : FuncData} (F : Fun K "left_alone" "left_alone" s_left_alone f fd) : FnOk P w K mg base (L2N.CX P w) 5 f fd ["left", "right"] (spOp fc (.logic .and true)) := by
  refine okN (k := 4) F sc_left_alone op_len (fun cdv A outer s H vs Q E hr h => ?_)
  refine ⟨_, pss_one (ps_ret (pe_and (pv 0) (pe_one (pe_not (pv 1))))), ?_⟩
  obtain ⟨a, b, rfl, k⟩ := op_bits h
  refine ⟨_, rfl, _, rfl, ?_⟩
  cases a with
  | true => exact iteT ⟨_, rfl, _, rfl, by cases b <;> exact k⟩
  | false => exact iteF k
theorem sc_left_or_other : FnScope ["left", "right"] ["left", "right"] (defScope s_left_or_other) := ⟨rfl, rfl, rfl, by decide +kernel, rfl, by decide +kernel, by decide +kernel⟩
theorem ok_left_or_other {f : Addr} {fd : FuncData} (F : Fun K "left_or_other" "left_or_other" s_left_or_other f fd) : FnOk P w K mg base (L2N.CX P w) 5 f fd ["left", "right"] (spOp fc (.logic .or true)) := by
  refine okN (k := 4) F sc_left_or_other op_len (fun cdv A outer s H vs Q E hr h => ?_)
  refine ⟨_, pss_one (ps_ret (pe_or (pv 0) (pe_one (pe_not (pv 1))))), ?_⟩
  obtain ⟨a, b, rfl, k⟩ := op_bits h
  refine ⟨_, rfl, _, rfl, ?_⟩
  cases a with
  | true => exact iteT k
  | false => exact iteF ⟨_, rfl, _, rfl, by cases b <;> exact k⟩
theorem sc_alike : FnScope ["left", "right"] ["left", "right"] (defScope s_alike) := ⟨rfl, rfl, rfl, by decide +kernel, rfl, by decide +kernel, by decide +kernel⟩
theorem ok_alike_b {f : Addr} {fd : FuncData} (F : Fun K "alike" "alike" s_alike f fd) : FnOk P w K mg base (L2N.CX P w) 5 f fd ["left", "right"] (spOp fc (.logic .xor true)) := by
  refine okN (k := 4) F sc_alike op_len (fun cdv A outer s H vs Q E hr h => ?_)
  refine ⟨_, pss_one (ps_ret (pe_cmpR op_eq (pv 0) (pv 1) (nomark _))), ?_⟩
  obtain ⟨a, b, rfl, k⟩ := op_bits h
  refine ⟨_, rfl, _, rfl, rfl, ?_⟩
  cases a <;> cases b <;> exact k
theorem ok_alike_w {f : Addr} {fd : FuncData} (F : Fun K "alike" "alike" s_alike f fd) : FnOk P w K mg base (L2N.CX P w) 5 f fd ["left", "right"] (spOp fc (.cmp .eq)) := by
  refine okN (k := 4) F sc_alike op_len (fun cdv A outer s H vs Q E hr h => ?_)
  refine ⟨_, pss_one (ps_ret (pe_cmpR op_eq (pv 0) (pv 1) (nomark _))), ?_⟩
  obtain ⟨a, b, rfl, k⟩ := op_words h
  refine ⟨_, rfl, _, rfl, rfl, ?_⟩
  rw [int_eq, dec_beq]
  exact k
theorem sc_greater : FnScope ["left", "right"] ["left", "right"] (defScope s_greater) := ⟨rfl, rfl, rfl, by decide +kernel, rfl, by decide +kernel, by decide +kernel⟩
theorem ok_greater {f : Addr} {fd : FuncData} (F : Fun K "greater" "greater" s_greater f fd) : FnOk P w K mg base (L2N.CX P w) 5 f fd ["left", "right"] (spOp fc (.cmp .gt)) := by
  refine okN (k := 4) F sc_greater op_len (fun cdv A outer s H vs Q E hr h => ?_)
  refine ⟨_, pss_one (ps_ret (pe_cmpR op_gt (pv 0) (pv 1) (nomark _))), ?_⟩
  obtain ⟨a, b, rfl, k⟩ := op_words h
  exact ⟨_, rfl, _, rfl, _, _, rfl, rfl, k⟩
theorem sc_not_less : FnScope ["left", "right"] ["left", "right"] (defScope s_not_less) := ⟨rfl, rfl, rfl, by decide +kernel, rfl, by decide +kernel, by decide +kernel⟩
theorem ok_not_less {f : Addr} {fd : FuncData} (F : Fun K "not_less" "not_less" s_not_less f fd) : FnOk P w K mg base (L2N.CX P w) 5 f fd ["left", "right"] (spOp fc (.cmp .ge)) := by
  refine okN (k := 4) F sc_not_less op_len (fun cdv A outer s H vs Q E hr h => ?_)
  refine ⟨_, pss_one (ps_ret (pe_cmpR op_ge (pv 0) (pv 1) (nomark _))), ?_⟩
  obtain ⟨a, b, rfl, k⟩ := op_words h
  exact ⟨_, rfl, _, rfl, _, _, rfl, rfl, k⟩
theorem sc_not_greater : FnScope ["left", "right"] ["left", "right"] (defScope s_not_greater) := ⟨rfl, rfl, rfl, by decide +kernel, rfl, by decide +kernel, by decide +kernel⟩
theorem ok_not_greater {f : Addr} {fd : FuncData} (F : Fun K "not_greater" "not_greater" s_not_greater f fd) : FnOk P w K mg base (L2N.CX P w) 5 f fd ["left", "right"] (spOp fc (.cmp .le)) := by
  refine okN (k := 4) F sc_not_greater op_len (fun cdv A outer s H vs Q E hr h => ?_)
  refine ⟨_, pss_one (ps_ret (pe_cmpR op_le (pv 0) (pv 1) (nomark _))), ?_⟩
  obtain ⟨a, b, rfl, k⟩ := op_words h
  exact ⟨_, rfl, _, rfl, _, _, rfl, rfl, k⟩
theorem sc_less : FnScope ["left", "right"] ["left", "right"] (defScope s_less) := ⟨rfl, rfl, rfl, by decide +kernel, rfl, by decide +kernel, by decide +kernel⟩
theorem ok_less {f : Addr} {fd : FuncData} (F : Fun K "less" "less" s_less f fd) : FnOk P w K mg base (L2N.CX P w) 5 f fd ["left", "right"] (spOp fc (.cmp .lt)) := by
  refine okN (k := 4) F sc_less op_len (fun cdv A outer s H vs Q E hr h => ?_)
  refine ⟨_, pss_one (ps_ret (pe_cmpR op_lt (pv 0) (pv 1) (nomark _))), ?_⟩
  obtain ⟨a, b, rfl, k⟩ := op_words h
  exact ⟨_, rfl, _, rfl, _, _, rfl, rfl, k⟩
theorem sc_sum_of : FnScope ["left", "right"] ["left", "right"] (defScope s_sum_of) := ⟨rfl, rfl, rfl, by decide +kernel, rfl, by decide +kernel, by decide +kernel⟩
theorem ok_sum_of {f : Addr} {fd : FuncData} (F : Fun K "sum_of" "sum_of" s_sum_of f fd) (R : Df P w K mg base (L2N.CX P w) 4 "in_range" ["word"] (spRange fc)) : FnOk P w K mg base (L2N.CX P w) 5 f fd ["left", "right"] (spOp fc (.arith .add)) := by
  obtain ⟨fR, fdR, mR, kR, bR, FR⟩ := R
  refine okN (k := 4) F sc_sum_of op_len (fun cdv A outer s H vs Q E hr h => ?_)
  refine ⟨_, pss_one (ps_ret (pe_callS FR hr (by rfl) mR kR bR (fun σ => L2N.passAt (L2N.takes_of rfl rfl rfl rfl) σ) (pa_cons (pe_op op_add (pv 0) (pv 1)) pa_nil))), ?_⟩
  obtain ⟨a, b, rfl, fa, fb, kF, k⟩ := op_nums h
  obtain ⟨k1, k2⟩ := fit_use kF k
  exact ⟨_, rfl, _, rfl, _, _, rfl, rfl, _, rfl, k1, k2⟩
theorem sc_difference : FnScope ["left", "right"] ["left", "right"] (defScope s_difference) := ⟨rfl, rfl, rfl, by decide +kernel, rfl, by decide +kernel, by decide +kernel⟩
theorem ok_difference {f : Addr} {fd : FuncData} (F : Fun K "difference" "difference" s_difference f fd) (R : Df P w K mg base (L2N.CX P w) 4 "in_range" ["word"] (spRange fc)) : FnOk P w K mg base (L2N.CX P w) 5 f fd ["left", "right"] (spOp fc (.arith .sub)) := by
  obtain ⟨fR, fdR, mR, kR, bR, FR⟩ := R
  refine okN (k := 4) F sc_difference op_len (fun cdv A outer s H vs Q E hr h => ?_)
  refine ⟨_, pss_one (ps_ret (pe_callS FR hr (by rfl) mR kR bR (fun σ => L2N.passAt (L2N.takes_of rfl rfl rfl rfl) σ) (pa_cons (pe_op op_sub (pv 0) (pv 1)) pa_nil))), ?_⟩
  obtain ⟨a, b, rfl, fa, fb, kF, k⟩ := op_nums h
  obtain ⟨k1, k2⟩ := fit_use kF k
  exact ⟨_, rfl, _, rfl, _, _, rfl, rfl, _, rfl, k1, k2⟩
theorem sc_product : FnScope ["left", "right"] ["left", "right"] (defScope s_product) := ⟨rfl, rfl, rfl, by decide +kernel, rfl, by decide +kernel, by decide +kernel⟩
theorem ok_product {f : Addr} {fd : FuncData} (F : Fun K "product" "product" s_product f fd) (R : Df P w K mg base (L2N.CX P w) 4 "in_range" ["word"] (spRange fc)) : FnOk P w K mg base (L2N.CX P w) 5 f fd ["left", "right"] (spOp fc (.arith .mul)) := by
  obtain ⟨fR, fdR, mR, kR, bR, FR⟩ := R
  refine okN (k := 4) F sc_product op_len (fun cdv A outer s H vs Q E hr h => ?_)
  refine ⟨_, pss_one (ps_ret (pe_callS FR hr (by rfl) mR kR bR (fun σ => L2N.passAt (L2N.takes_of rfl rfl rfl rfl) σ) (pa_cons (pe_op op_mul (pv 0) (pv 1)) pa_nil))), ?_⟩
  obtain ⟨a, b, rfl, fa, fb, kF, k⟩ := op_nums h
  obtain ⟨k1, k2⟩ := fit_use kF k
  exact ⟨_, rfl, _, rfl, _, _, rfl, rfl, .inl (by have := SlM.fits_iff.mp fa; constructor <;> omega), _, rfl, k1, k2⟩
theorem abs_pos {b : Int} (h : b ≠ 0) : 0 < absI b := by
  rw [absI_nat]
  omega
theorem abs_lt {b : Int} (h : Sf47.fits b = true) : (absI b).natAbs < 2 ^ 32 := by
  have := SlM.fits_iff.mp h
  rw [absI_nat]
  omega
theorem sc_quotient : FnScope ["left", "right", "size"] ["left", "right"] (defScope s_quotient) := ⟨rfl, rfl, rfl, by decide +kernel, rfl, by decide +kernel, by decide +kernel⟩
theorem ok_quotient {f : Addr} {fd : FuncData} (F : Fun K "quotient" "quotient" s_quotient f fd) (ha : mg "abs" = none) (Z : Df P w K mg base (L2N.CX P w) 4 "refuse_zero" ["divisor"] (spZero fc)) (R : Df P w K mg base (L2N.CX P w) 4 "in_range" ["word"] (spRange fc)) : FnOk P w K mg base (L2N.CX P w) 5 f fd ["left", "right"] (spOp fc (.arith .div)) := by
  obtain ⟨fR, fdR, mR, kR, bR, FR⟩ := R
  obtain ⟨fZ, fdZ, mZ, kZ, bZ, FZ⟩ := Z
  refine okN (k := 4) F sc_quotient op_len (fun cdv A outer s H vs Q E hr h => ?_)
  refine ⟨_, pss_cons (ps_expr (pe_callS FZ hr (by rfl) mZ kZ bZ (fun σ => L2N.passAt (L2N.takes_of rfl rfl rfl rfl) σ) (pa_cons (pv 1) pa_nil)))
    (pss_cons (ps_set (i := 2) sc_quotient.nd rfl (Or.inl rfl) (pe_op op_fdivW (pe_callB call_abs (by rfl) ha (by decide +kernel) (pa_cons (pv 0) pa_nil)) (pe_callB call_abs (by rfl) ha (by decide +kernel) (pa_cons (pv 1) pa_nil))))
    (pss_one (ps_ret (pe_callS FR hr (by rfl) mR kR bR (fun σ => L2N.passAt (L2N.takes_of rfl rfl rfl rfl) σ) (pa_cons (pe_ifExp (pt_cmpR op_eq (pe_cmpR op_lt (pv 0) pe_int (nomark _)) (pe_cmpR op_lt (pv 1) pe_int (nomark _)) (nomark _)) (pv 2) (pe_un un_neg (pv 2))) pa_nil))))), ?_⟩
  obtain ⟨a, b, rfl, fa, fb, kF, k⟩ := op_nums h
  refine ⟨_, rfl, b, rfl, fun hb => ?_, fun hb => kF 3 (if_pos hb)⟩
  obtain ⟨k1, k2⟩ := fit_use (z := Int.tdiv a b) (fun e he => kF e ((if_neg hb).trans he)) (fun v hv => k v ((if_neg hb).trans hv))
  refine ⟨_, rfl, a, rfl, _, rfl, b, rfl, absI a, absI b, rfl, rfl, wide_div (abs_pos hb) (abs_lt fb) (by decide) (by decide), ?_⟩
  refine ⟨_, rfl, _, _, rfl, rfl, _, rfl, _, _, rfl, rfl, rfl, _, rfl, ?_⟩
  have e := div_is a b
  by_cases c : decide (a < 0) = decide (b < 0)
  · rw [if_pos c] at e
    refine if_t (decide_eq_true (congrArg V.bl c)) ⟨_, rfl, Int.tdiv a b, congrArg (fun x => [V.int x]) e, k1, k2⟩
  · rw [if_neg c] at e
    refine if_f (decide_eq_false fun q => c (V.bl.inj q)) ⟨_, rfl, _, rfl, Int.tdiv a b, congrArg (fun x => [V.int x]) e, k1, k2⟩
theorem sc_remainder : FnScope ["left", "right", "size"] ["left", "right"] (defScope s_remainder) := ⟨rfl, rfl, rfl, by decide +kernel, rfl, by decide +kernel, by decide +kernel⟩
theorem ok_remainder {f : Addr} {fd : FuncData} (F : Fun K "remainder" "remainder" s_remainder f fd) (ha : mg "abs" = none) (Z : Df P w K mg base (L2N.CX P w) 4 "refuse_zero" ["divisor"] (spZero fc)) : FnOk P w K mg base (L2N.CX P w) 5 f fd ["left", "right"] (spOp fc (.arith .mod)) := by
  obtain ⟨fZ, fdZ, mZ, kZ, bZ, FZ⟩ := Z
  refine okN (k := 4) F sc_remainder op_len (fun cdv A outer s H vs Q E hr h => ?_)
  refine ⟨_, pss_cons (ps_expr (pe_callS FZ hr (by rfl) mZ kZ bZ (fun σ => L2N.passAt (L2N.takes_of rfl rfl rfl rfl) σ) (pa_cons (pv 1) pa_nil)))
    (pss_cons (ps_set (i := 2) sc_remainder.nd rfl (Or.inl rfl) (pe_op op_modN (pe_callB call_abs (by rfl) ha (by decide +kernel) (pa_cons (pv 0) pa_nil)) (pe_callB call_abs (by rfl) ha (by decide +kernel) (pa_cons (pv 1) pa_nil))))
    (pss_one (ps_ret (pe_ifExp (pt_cmpR op_lt (pv 0) pe_int (nomark _)) (pe_un un_neg (pv 2)) (pv 2))))), ?_⟩
  obtain ⟨a, b, rfl, fa, fb, kF, k⟩ := op_nums h
  refine ⟨_, rfl, b, rfl, fun hb => ?_, fun hb => kF 3 (if_pos hb)⟩
  have k1 : Q (.int (Int.tmod a b)) H := k (.inr (Int.tmod a b)) ((if_neg hb).trans (mod_ok fa))
  have hp := abs_pos hb
  refine ⟨_, rfl, a, rfl, _, rfl, b, rfl, absI a, absI b, rfl, rfl, by omega, ?_⟩
  refine ⟨_, rfl, _, _, rfl, rfl, _, rfl, ?_⟩
  have e := mod_is a b
  by_cases c : a < 0
  · rw [if_pos c] at e
    refine if_t (decide_eq_true c) ⟨_, rfl, _, rfl, ?_⟩
    show Q (V.int (-((absI a).fmod (absI b)))) H
    rw [e]
    exact k1
  · rw [if_neg c] at e
    refine if_f (decide_eq_false c) ⟨_, rfl, ?_⟩
    show Q (V.int ((absI a).fmod (absI b))) H
    rw [e]
    exact k1
end
end Sl
set_option Elab.async false
set_option linter.all false
set_option maxRecDepth 100000
set_option maxHeartbeats 4000000
namespace Sl
open PySem PySem.Spec PyProof.Rows L2 SlM
/-! ### the tables of operations -/
/-- a dict of the module's top from texts to defs, by their names -/
def FnTab (K : PySem.W.Frag) (w : World) (mg : Str → Option Value) (x : Str) (tab : List (Str × Str)) : Prop := ∃ d, mg x = some (.ref d) ∧ KTab K w d (fun (y : Str) u => mg y = some u ∧ ∃ f, u = .ref f) tab
def opFn : Sf47.Bin → Str
  | .logic .and false => "both"
  | .logic .or false => "either"
  | .logic .xor false => "differing"
  | .logic .and true => "left_alone"
  | .logic .or true => "left_or_other"
  | .logic .xor true => "alike"
  | .arith .add => "sum_of"
  | .arith .sub => "difference"
  | .arith .mul => "product"
  | .arith .div => "quotient"
  | .arith .mod => "remainder"
  | .cmp .gt => "greater"
  | .cmp .ge => "not_less"
  | .cmp .eq => "alike"
  | .cmp .ne => "differing"
  | .cmp .le => "not_greater"
  | .cmp .lt => "less"
theorem bit_look (l : Sf47.Logic) (n : Bool) : bitOps.lookup (S (binName (.logic l n))) = some (opFn (.logic l n)) := by
  rcases l with _ | _ | _ <;> cases n <;> decide +kernel
theorem word_look1 (l : Sf47.Arith) : bitOps.lookup (S (binName (.arith l))) = none ∧ wordOps.lookup (S (binName (.arith l))) = some (opFn (.arith l)) := by
  rcases l with _ | _ | _ | _ | _ <;> decide +kernel
theorem word_look2 (l : Sf47.Cmp) : bitOps.lookup (S (binName (.cmp l))) = none ∧ wordOps.lookup (S (binName (.cmp l))) = some (opFn (.cmp l)) := by
  rcases l with _ | _ | _ | _ | _ | _ <;> decide +kernel
def wk (o : Sf47.Bin) (ra rb : Option Sf47.Val) : Except Nat Sf47.Val := match ra, rb with
  | some a, some b => o.run a b
  | _, _ => .error 1
section
variable {P : Program} {w : World} {K : PySem.W.Frag} {mg : Str → Option Value} {base : Heap} {CF : Addr} {fc : Nat → Addr}
def spWork (fc : Nat → Addr) : Sp := fun vs H Q E => ∃ (o : Sf47.Bin) (ra rb : Option Sf47.Val), vs = [.str (S (binName o)), resV ra, resV rb] ∧ (∀ v, ra = some v → fitV v) ∧ (∀ v, rb = some v → fitV v) ∧ (∀ e, wk o ra rb = .error e → FOut fc E H e) ∧ (∀ v, wk o ra rb = .ok v → Q (valV v) H)
theorem sc_wrk : FnScope ["name", "left", "right", "operation"] ["name", "left", "right"] (defScope s_work_out) := ⟨rfl, rfl, rfl, by decide +kernel, rfl, by decide +kernel, by decide +kernel⟩
theorem wk_bit1 {l : Sf47.Logic} {n : Bool} {ra rb : Option Sf47.Val} (h : ∀ b, ra ≠ some (.inl b)) : wk (.logic l n) ra rb = .error 1 := by
  rcases ra with _ | (a | a)
  · rfl
  · exact absurd rfl (h a)
  · rcases rb with _ | (b | b) <;> rfl
theorem wk_bit2 {l : Sf47.Logic} {n : Bool} {ra rb : Option Sf47.Val} (h : ∀ b, rb ≠ some (.inl b)) : wk (.logic l n) ra rb = .error 1 := by
  rcases rb with _ | (a | a)
  · rcases ra with _ | (b | b) <;> rfl
  · exact absurd rfl (h a)
  · rcases ra with _ | (b | b) <;> rfl
/-- an operation of words -/
def isW2 : Sf47.Bin → Prop
  | .logic _ _ => False
  | _ => True
theorem wk_word1 {o : Sf47.Bin} (ho : isW2 o) {ra rb : Option Sf47.Val} (h : ∀ b, ra ≠ some (.inr b)) : wk o ra rb = .error 1 := by
  rcases ra with _ | (a | a)
  · rfl
  · rcases rb with _ | b
    · rfl
    · rcases o with ⟨l, n⟩ | l | l
      · exact ho.elim
      · rfl
      · rfl
  · exact absurd rfl (h a)
theorem wk_word2 {o : Sf47.Bin} (ho : isW2 o) {ra rb : Option Sf47.Val} (h : ∀ b, rb ≠ some (.inr b)) : wk o ra rb = .error 1 := by
  rcases rb with _ | (a | a)
  · rcases ra with _ | b <;> rfl
  · rcases ra with _ | (b | b)
    · rfl
    · rcases o with ⟨l, n⟩ | l | l
      · exact ho.elim
      · rfl
      · rfl
    · rcases o with ⟨l, n⟩ | l | l
      · exact ho.elim
      · rfl
      · rfl
  · exact absurd rfl (h a)
theorem ok_wrk {f : Addr} {fd : FuncData} (F : Fun K "work_out" "work_out" s_work_out f fd) (TB : FnTab K w mg "BIT_OPERATIONS" bitOps) (TW : FnTab K w mg "WORD_OPERATIONS" wordOps) (B : Df P w K mg base (L2N.CX P w) 4 "bit_of" ["value"] (spBit fc)) (W : Df P w K mg base (L2N.CX P w) 4 "word_of_results" ["value"] (spWord fc))
    (O : ∀ o : Sf47.Bin, Df P w K mg base (L2N.CX P w) 5 (opFn o) ["left", "right"] (spOp fc o)) : FnOk P w K mg base (L2N.CX P w) 6 f fd ["name", "left", "right"] (spWork fc) := by
  obtain ⟨fB, fdB, mB, kB, bB, FB⟩ := B
  obtain ⟨fW, fdW, mW, kW, bW, FW⟩ := W
  obtain ⟨dB, gB, TB⟩ := TB
  obtain ⟨dW, gW, TW⟩ := TW
  have hR : ∀ (y : Str) (u : Value), (mg y = some u ∧ ∃ f, u = .ref f) → ∃ v, L2.RelV v u := fun y u ⟨_, f, e⟩ => ⟨.ref f, e⟩
  have held : ∀ (o : Sf47.Bin) (u : Value) (v : V), (mg (opFn o) = some u ∧ ∃ f, u = .ref f) → L2.RelV v u → ∃ g, v = .ref g ∧ HeldF P w K mg base (L2N.CX P w) 5 g (spOp fc o) := fun o u v ⟨e, _⟩ r => by
    obtain ⟨g, fd, mg', kg, bg, Fg⟩ := O o
    rw [mg'] at e
    cases e
    exact ⟨g, relV_inj r rfl, fd, _, Fg, kg, bg⟩
  refine okN (k := 5) F sc_wrk (fun vs H Q E h => ?_) (fun cdv A outer s H vs Q E hr h => ?_)
  · obtain ⟨o, ra, rb, rfl, _⟩ := h
    rfl
  · have hr4 : Room 4 _ := hr.mono (by decide)
    refine ⟨_, pss_cons (ps_if (pt_cmpR (op_in_tab TB) (pv 0) (pe_glob (v := .ref dB) (by rfl) gB rfl) (by rfl))
        (pss_cons (ps_set (i := 3) sc_wrk.nd rfl (Or.inl rfl) (pe_ix (ix_tab TB hR) (pe_glob (v := .ref dB) (by rfl) gB rfl) (pv 0) (fun _ _ => rfl)))
          (pss_one (ps_ret (pe_callF (k := 5) (i := 3) hr rfl (Or.inl rfl) (fun σ => L2N.passAt (L2N.takes_of rfl rfl rfl rfl) σ) (pa_cons (pe_callS FB hr4 (by rfl) mB kB bB (fun σ => L2N.passAt (L2N.takes_of rfl rfl rfl rfl) σ) (pa_cons (pv 1) pa_nil)) (pa_cons (pe_callS FB hr4 (by rfl) mB kB bB (fun σ => L2N.passAt (L2N.takes_of rfl rfl rfl rfl) σ) (pa_cons (pv 2) pa_nil)) pa_nil)))))) pss_nil)
      (pss_cons (ps_set (i := 3) sc_wrk.nd rfl (Or.inl rfl) (pe_ix (ix_tab TW hR) (pe_glob (v := .ref dW) (by rfl) gW rfl) (pv 0) (fun _ _ => rfl)))
          (pss_one (ps_ret (pe_callF (k := 5) (i := 3) hr rfl (Or.inl rfl) (fun σ => L2N.passAt (L2N.takes_of rfl rfl rfl rfl) σ) (pa_cons (pe_callS FW hr4 (by rfl) mW kW bW (fun σ => L2N.passAt (L2N.takes_of rfl rfl rfl rfl) σ) (pa_cons (pv 1) pa_nil)) (pa_cons (pe_callS FW hr4 (by rfl) mW kW bW (fun σ => L2N.passAt (L2N.takes_of rfl rfl rfl rfl) σ) (pa_cons (pv 2) pa_nil)) pa_nil)))))), ?_⟩
    obtain ⟨o, ra, rb, rfl, fa, fb, kF, kS⟩ := h
    rcases o with ⟨l, n⟩ | l | l
    · refine ⟨_, rfl, rfl, .inl ⟨_, rfl, _, rfl, ?_⟩⟩
      rw [bit_look l n]
      refine iteT ?_
      refine ⟨_, rfl, _, _, rfl, rfl, bit_look l n, fun v u r1 r2 => ?_⟩
      obtain ⟨g, rfl, hg⟩ := held _ u v r1 r2
      refine ⟨g, _, rfl, hg, _, rfl, ra, rfl, fun a ea => ?_, fun na => kF 1 (wk_bit1 na)⟩
      refine ⟨_, rfl, rb, rfl, fun b eb => ?_, fun nb => kF 1 (wk_bit2 nb)⟩
      subst ea eb
      exact ⟨.inl a, .inl b, rfl, trivial, fa _ rfl, fb _ rfl, kF, kS⟩
    · refine ⟨_, rfl, rfl, .inl ⟨_, rfl, _, rfl, ?_⟩⟩
      rw [(word_look1 l).1]
      refine iteF ?_
      refine ⟨_, rfl, _, _, rfl, rfl, (word_look1 l).2, fun v u r1 r2 => ?_⟩
      obtain ⟨g, rfl, hg⟩ := held _ u v r1 r2
      refine ⟨g, _, rfl, hg, _, rfl, ra, rfl, fun a ea => ?_, fun na => kF 1 (wk_word1 (o := .arith l) trivial na)⟩
      refine ⟨_, rfl, rb, rfl, fun b eb => ?_, fun nb => kF 1 (wk_word2 (o := .arith l) trivial nb)⟩
      subst ea eb
      exact ⟨.inr a, .inr b, rfl, trivial, fa _ rfl, fb _ rfl, kF, kS⟩
    · refine ⟨_, rfl, rfl, .inl ⟨_, rfl, _, rfl, ?_⟩⟩
      rw [(word_look2 l).1]
      refine iteF ?_
      refine ⟨_, rfl, _, _, rfl, rfl, (word_look2 l).2, fun v u r1 r2 => ?_⟩
      obtain ⟨g, rfl, hg⟩ := held _ u v r1 r2
      refine ⟨g, _, rfl, hg, _, rfl, ra, rfl, fun a ea => ?_, fun na => kF 1 (wk_word1 (o := .cmp l) trivial na)⟩
      refine ⟨_, rfl, rb, rfl, fun b eb => ?_, fun nb => kF 1 (wk_word2 (o := .cmp l) trivial nb)⟩
      subst ea eb
      exact ⟨.inr a, .inr b, rfl, trivial, fa _ rfl, fb _ rfl, kF, kS⟩
end
end Sl
set_option Elab.async false
set_option linter.all false
set_option maxRecDepth 100000
set_option maxHeartbeats 4000000
namespace Sl
open PySem PySem.Spec PyProof.Rows L2 SlM
/-- one object is another one now -/
structure Obj1 (H H' : Hp) (a : Addr) (o : HO) : Prop where
  at_ : H' a = some o
  oth : ∀ b, b ≠ a → H' b = H b
theorem Obj1.of {H : Hp} {a : Addr} {o : HO} : Obj1 H (upd H a o) a o := ⟨upd_same, fun b hb => upd_ne hb⟩
theorem Obj1.put {H H1 : Hp} {a : Addr} {o o' : HO} (h : Obj1 H H1 a o) {u : HO} (e : u = o') : Obj1 H (upd H1 a u) a o' := ⟨by rw [upd_same, e], fun b hb => (upd_ne hb).trans (h.oth b hb)⟩
theorem Obj1.refl {H : Hp} {a : Addr} {o : HO} (h : H a = some o) : Obj1 H H a o := ⟨h, fun _ _ => rfl⟩
/-! ### fields of counters and timers -/
theorem cnt_was (c : Sf47.Count) (b : Bool) : putF "was_on" (.bl b) (cntF c) = cntF { c with was := b } := by kernel_rfl
theorem cnt_val (c : Sf47.Count) (z : Int) : putF "counted" (.int z) (cntF c) = cntF { c with value := z } := by kernel_rfl
theorem cnt_bit (c : Sf47.Count) (b : Bool) : putF "bit" (.bl b) (cntF c) = cntF { c with on := b } := by kernel_rfl
theorem cnt_gwas (c : Sf47.Count) : (cntF c).lookup ("was_on" : Str) = some (.bl c.was) := by kernel_rfl
theorem cnt_gval (c : Sf47.Count) : (cntF c).lookup ("counted" : Str) = some (.int c.value) := by kernel_rfl
theorem cnt_gbit (c : Sf47.Count) : (cntF c).lookup ("bit" : Str) = some (.bl c.on) := by kernel_rfl
theorem cnt_new : putF "bit" (.bl false) (putF "counted" (.int 0) (putF "was_on" (.bl false) [])) = cntF Sf47.noCount := by kernel_rfl
theorem tim_was (t : Sf47.Tim) (b : Bool) : putF "was_on" (.bl b) (timF t) = timF { t with was := b } := by kernel_rfl
theorem tim_since (t : Sf47.Tim) (n : Nat) : putF "since" (.int (n : Int)) (timF t) = timF { t with since := n } := by kernel_rfl
theorem tim_run (t : Sf47.Tim) (b : Bool) : putF "has_run" (.bl b) (timF t) = timF { t with run := b } := by kernel_rfl
theorem tim_el (t : Sf47.Tim) (n : Nat) : putF "elapsed" (.int (n : Int)) (timF t) = timF { t with time := n } := by kernel_rfl
theorem tim_bit (t : Sf47.Tim) (b : Bool) : putF "bit" (.bl b) (timF t) = timF { t with on := b } := by kernel_rfl
theorem tim_gwas (t : Sf47.Tim) : (timF t).lookup ("was_on" : Str) = some (.bl t.was) := by kernel_rfl
theorem tim_gsince (t : Sf47.Tim) : (timF t).lookup ("since" : Str) = some (.int t.since) := by kernel_rfl
theorem tim_grun (t : Sf47.Tim) : (timF t).lookup ("has_run" : Str) = some (.bl t.run) := by kernel_rfl
theorem tim_gel (t : Sf47.Tim) : (timF t).lookup ("elapsed" : Str) = some (.int t.time) := by kernel_rfl
theorem tim_gbit (t : Sf47.Tim) : (timF t).lookup ("bit" : Str) = some (.bl t.on) := by kernel_rfl
theorem tim_new : putF "bit" (.bl false) (putF "elapsed" (.int 0) (putF "has_run" (.bl false) (putF "since" (.int 0) (putF "was_on" (.bl false) [])))) = timF Sf47.noTim := by kernel_rfl
/-- what the text says of Counter -/
structure CntTxt (K : PySem.W.Frag) (mg : Str → Option Value) (CC fI : Addr) (fdI : FuncData) : Prop where
  gC : mg "Counter" = some (.ref CC)
  cl : Cls K CC
  nW : NoAttr K CC "was_on"
  nV : NoAttr K CC "counted"
  nB : NoAttr K CC "bit"
  mkC : Mk K CC fI
  fi : Fun K "__init__" "Counter.__init__" s_counter_init fI fdI
/-- .. of Timer -/
structure TimTxt (K : PySem.W.Frag) (mg : Str → Option Value) (CT fI : Addr) (fdI : FuncData) : Prop where
  gC : mg "Timer" = some (.ref CT)
  cl : Cls K CT
  nW : NoAttr K CT "was_on"
  nS : NoAttr K CT "since"
  nR : NoAttr K CT "has_run"
  nE : NoAttr K CT "elapsed"
  nB : NoAttr K CT "bit"
  mkC : Mk K CT fI
  fi : Fun K "__init__" "Timer.__init__" s_timer_init fI fdI
section
variable {P : Program} {w : World} {K : PySem.W.Frag} {mg : Str → Option Value} {base : Heap} {CC CT fI : Addr} {fdI : FuncData}
/-! ### Counter -/
def spCntI (CC : Addr) : Sp := fun vs H Q _ => ∃ p dx : Addr, vs = [.ref p] ∧ H p = some (.ins CC dx []) ∧ ∀ H', Obj1 H H' p (.ins CC dx (cntF Sf47.noCount)) → Q .non H'
theorem sc_cin : FnScope ["self"] ["self"] (defScope s_counter_init) := ⟨rfl, rfl, rfl, by decide +kernel, rfl, by decide +kernel, by decide +kernel⟩
theorem ok_cin (T : CntTxt K mg CC fI fdI) : FnOk P w K mg base CX0 1 fI fdI ["self"] (spCntI CC) := by
  refine T.fi.ok sc_cin (fun vs H Q E h => ?_) (fun cdv A outer s H vs Q E hr h => ?_)
  · obtain ⟨p, dx, rfl, _⟩ := h
    rfl
  · refine ⟨_, pss_cons (ps_fld (pv 0) pe_bl rfl) (pss_cons (ps_fld (pv 0) pe_int rfl) (pss_one (ps_fld (pv 0) pe_bl rfl))), ?_⟩
    obtain ⟨p, dx, rfl, hp, k⟩ := h
    refine ⟨_, rfl, p, CC, dx, [], rfl, hp, T.cl, T.nW, (by show 0 < 1000; decide), ?_⟩
    refine ⟨_, rfl, p, CC, dx, _, rfl, upd_same, T.cl, T.nV, (by show 1 < 1000; decide), ?_⟩
    refine ⟨_, rfl, p, CC, dx, _, rfl, upd_same, T.cl, T.nB, (by show 2 < 1000; decide), ?_⟩
    exact k _ (((Obj1.of.put rfl).put (congrArg (HO.ins CC dx) cnt_new)))
theorem b_cin (T : CntTxt K mg CC fI fdI) : Binds K fdI ["self"] [] := T.fi.binds fun _ _ _ _ _ _ us hl => match us, hl with | [_], _ => rfl
def spUp (CC : Addr) : Sp := fun vs H Q _ => ∃ (a dx : Addr) (c : Sf47.Count) (on : Bool) (lim : Int), vs = [.ref a, .bl on, .int lim] ∧ H a = some (.ins CC dx (cntF c)) ∧ ∀ H', Obj1 H H' a (.ins CC dx (cntF (c.use on lim))) → Q .non H'
theorem sc_cup : FnScope ["counter", "on", "limit"] ["counter", "on", "limit"] (defScope s_count_up) := ⟨rfl, rfl, rfl, by decide +kernel, rfl, by decide +kernel, by decide +kernel⟩
theorem ok_cup {f : Addr} {fd : FuncData} (F : Fun K "count_up" "count_up" s_count_up f fd) (T : CntTxt K mg CC fI fdI) (M : Df P w K mg base CX0 1 "one_more" ["word"] spMore) : FnOk P w K mg base CX0 2 f fd ["counter", "on", "limit"] (spUp CC) := by
  obtain ⟨fM, fdM, mM, kM, bM, FM⟩ := M
  refine F.ok sc_cup (fun vs H Q E h => ?_) (fun cdv A outer s H vs Q E hr h => ?_)
  · obtain ⟨a, dx, c, on, lim, rfl, _⟩ := h
    rfl
  · refine ⟨_, C8.pss_cut (ps_if (PW.pt (pw_and (pt_val (pv 1)) (pw_and1 (pt_not (pt_val (pe_fld (pv 0) (by rfl)))))))
        (pss_one (ps_fld (pv 0) (pe_call FM hr (by rfl) mM kM bM .nil pass0 (pa_cons (pe_fld (pv 0) (by rfl)) pa_nil)) rfl)) pss_nil)
      (pss_cons (ps_fld (pv 0) (pv 1) rfl)
      (pss_one (ps_fld (pv 0) (pe_cmpR op_ge (pe_fld (pv 0) (by rfl)) (pv 2) (nomark _)) rfl))), ?_⟩
    obtain ⟨a, dx, c, on, lim, rfl, ha, k⟩ := h
    refine ⟨fun σ' H' => σ' = [some (.ref a), some (.bl on), some (.int lim)] ∧ ∃ c1 : Sf47.Count, Obj1 H H' a (.ins CC dx (cntF c1)) ∧ c1.value = (c.use on lim).value, ?_, ?_⟩
    · refine ⟨_, rfl, _, rfl, ?_⟩
      cases on with
      | false => exact iteF (iteF ⟨rfl, c, Obj1.refl ha, rfl⟩)
      | true =>
        refine iteT ⟨_, rfl, a, CC, dx, _, _, rfl, ha, T.cl, T.nW, cnt_gwas _, _, rfl, ?_⟩
        by_cases cw : c.was = true
        · rw [cw]
          refine iteF ⟨rfl, c, Obj1.refl ha, ?_⟩
          show c.value = if true = true ∧ c.was = false then _ else c.value
          rw [if_neg (fun q => by rw [cw] at q; cases q.2)]
        · have cw : c.was = false := by simpa using cw
          rw [cw]
          refine iteT ⟨_, rfl, a, CC, dx, _, _, rfl, ha, T.cl, T.nV, cnt_gval _, c.value, rfl, ?_⟩
          refine ⟨_, rfl, a, CC, dx, _, rfl, ha, T.cl, T.nV, (by show 3 < 1000; decide), rfl, { c with value := min (c.value + 1) 2147483647 }, (Obj1.refl ha).put (congrArg (HO.ins CC dx) (cnt_val _ _)), ?_⟩
          show min (c.value + 1) 2147483647 = if true = true ∧ c.was = false then min (c.value + 1) (2 ^ 31 - 1) else c.value
          rw [if_pos ⟨rfl, cw⟩]
          rfl
    · rintro σ' H1 ⟨rfl, c1, o1, ev⟩
      have o2 := o1.put (congrArg (HO.ins CC dx) (cnt_was c1 on))
      refine ⟨_, rfl, _, rfl, a, CC, dx, _, rfl, o1.at_, T.cl, T.nW, (by show 3 < 1000; decide), ?_⟩
      refine ⟨_, rfl, a, CC, dx, _, _, rfl, o2.at_, T.cl, T.nV, cnt_gval _, _, rfl, _, _, rfl, rfl, ?_⟩
      refine ⟨_, rfl, a, CC, dx, _, rfl, o2.at_, T.cl, T.nB, (by show 3 < 1000; decide), k _ (o2.put ?_)⟩
      refine congrArg (HO.ins CC dx) ((cnt_bit _ _).trans (congrArg cntF ?_))
      show (⟨on, c1.value, decide (lim ≤ c1.value)⟩ : Sf47.Count) = _
      rw [ev]
      rfl
def spReset (CC : Addr) : Sp := fun vs H Q _ => ∃ (a dx : Addr) (c : Sf47.Count), vs = [.ref a] ∧ H a = some (.ins CC dx (cntF c)) ∧ ∀ H', Obj1 H H' a (.ins CC dx (cntF { c with value := 0, on := false })) → Q .non H'
theorem sc_rst : FnScope ["counter"] ["counter"] (defScope s_reset) := ⟨rfl, rfl, rfl, by decide +kernel, rfl, by decide +kernel, by decide +kernel⟩
theorem ok_rst {f : Addr} {fd : FuncData} (F : Fun K "reset" "reset" s_reset f fd) (T : CntTxt K mg CC fI fdI) : FnOk P w K mg base CX0 1 f fd ["counter"] (spReset CC) := by
  refine F.ok sc_rst (fun vs H Q E h => ?_) (fun cdv A outer s H vs Q E hr h => ?_)
  · obtain ⟨a, dx, c, rfl, _⟩ := h
    rfl
  · refine ⟨_, pss_cons (ps_fld (pv 0) pe_int rfl) (pss_one (ps_fld (pv 0) pe_bl rfl)), ?_⟩
    obtain ⟨a, dx, c, rfl, ha, k⟩ := h
    have o1 := (Obj1.refl ha).put (congrArg (HO.ins CC dx) (cnt_val c 0))
    refine ⟨_, rfl, a, CC, dx, _, rfl, ha, T.cl, T.nV, (by show 3 < 1000; decide), ?_⟩
    exact ⟨_, rfl, a, CC, dx, _, rfl, o1.at_, T.cl, T.nB, (by show 3 < 1000; decide), k _ (o1.put (congrArg (HO.ins CC dx) (cnt_bit _ _)))⟩
/-! ### Timer -/
def spTimI (CT : Addr) : Sp := fun vs H Q _ => ∃ p dx : Addr, vs = [.ref p] ∧ H p = some (.ins CT dx []) ∧ ∀ H', Obj1 H H' p (.ins CT dx (timF Sf47.noTim)) → Q .non H'
theorem sc_tin : FnScope ["self"] ["self"] (defScope s_timer_init) := ⟨rfl, rfl, rfl, by decide +kernel, rfl, by decide +kernel, by decide +kernel⟩
theorem ok_tin (T : TimTxt K mg CT fI fdI) : FnOk P w K mg base CX0 1 fI fdI ["self"] (spTimI CT) := by
  refine T.fi.ok sc_tin (fun vs H Q E h => ?_) (fun cdv A outer s H vs Q E hr h => ?_)
  · obtain ⟨p, dx, rfl, _⟩ := h
    rfl
  · refine ⟨_, pss_cons (ps_fld (pv 0) pe_bl rfl) (pss_cons (ps_fld (pv 0) pe_int rfl) (pss_cons (ps_fld (pv 0) pe_bl rfl) (pss_cons (ps_fld (pv 0) pe_int rfl) (pss_one (ps_fld (pv 0) pe_bl rfl))))), ?_⟩
    obtain ⟨p, dx, rfl, hp, k⟩ := h
    refine ⟨_, rfl, p, CT, dx, [], rfl, hp, T.cl, T.nW, (by show 0 < 1000; decide), ?_⟩
    refine ⟨_, rfl, p, CT, dx, _, rfl, upd_same, T.cl, T.nS, (by show 1 < 1000; decide), ?_⟩
    refine ⟨_, rfl, p, CT, dx, _, rfl, upd_same, T.cl, T.nR, (by show 2 < 1000; decide), ?_⟩
    refine ⟨_, rfl, p, CT, dx, _, rfl, upd_same, T.cl, T.nE, (by show 3 < 1000; decide), ?_⟩
    refine ⟨_, rfl, p, CT, dx, _, rfl, upd_same, T.cl, T.nB, (by show 4 < 1000; decide), ?_⟩
    exact k _ (((((Obj1.of.put rfl).put rfl).put rfl).put (congrArg (HO.ins CT dx) tim_new)))
theorem b_tin (T : TimTxt K mg CT fI fdI) : Binds K fdI ["self"] [] := T.fi.binds fun _ _ _ _ _ _ us hl => match us, hl with | [_], _ => rfl
end
end Sl
set_option Elab.async false
set_option linter.all false
set_option maxRecDepth 100000
set_option maxHeartbeats 4000000
namespace Sl
open PySem PySem.Spec PyProof.Rows L2 SlM
theorem min_is {now b w : Nat} (h : b ≤ now) : (if (w : Int) < (now : Int) - (b : Int) then (w : Int) else (now : Int) - (b : Int)) = ((min (now - b) w : Nat) : Int) := by
  split <;> omega
theorem nat_eq (a b : Nat) : decide (V.int (a : Int) = V.int (b : Int)) = (a == b) := by
  rw [int_eq]
  by_cases c : a = b
  · rw [decide_eq_true (by omega), c, beq_self_eq_true]
  · rw [decide_eq_false (by omega), beq_eq_false_iff_ne.mpr c]
theorem nat_lt (a b : Nat) : decide ((a : Int) < (b : Int)) = decide (a < b) := by
  by_cases c : a < b
  · rw [decide_eq_true (by omega), decide_eq_true c]
  · rw [decide_eq_false (by omega), decide_eq_false c]
theorem use_was (t : Sf47.Tim) (k : Sf47.Timer) (x : Bool) (w now : Nat) : (t.use k x w now).was = x := by
  cases k with
  | ton => cases x <;> rfl
  | tof =>
    cases x with
    | true => rfl
    | false =>
      unfold Sf47.Tim.use
      dsimp only
      rw [if_neg Bool.false_ne_true]
      split <;> rfl
  | tp =>
    unfold Sf47.Tim.use
    dsimp only
    split
    · split <;> (split <;> rfl)
    · split <;> rfl
section
variable {P : Program} {w : World} {K : PySem.W.Frag} {mg : Str → Option Value} {base : Heap} {CT fI : Addr} {fdI : FuncData}
def spDel (CT : Addr) (k : Sf47.Timer) : Sp := fun vs H Q _ => ∃ (a dx : Addr) (t : Sf47.Tim) (on : Bool) (lim now : Nat), vs = [.ref a, .bl on, .int lim, .int now] ∧ H a = some (.ins CT dx (timF t)) ∧ t.since ≤ now ∧ ∀ H', Obj1 H H' a (.ins CT dx (timF { t.use k on lim now with was := t.was })) → Q .non H'
theorem del_len {k : Sf47.Timer} : ∀ vs H Q E, spDel CT k vs H Q E → vs.length = ["timer", "on", "limit", "now"].length := fun vs H Q E h => by
  obtain ⟨a, dx, t, on, lim, now, rfl, _⟩ := h
  rfl
theorem sc_don : FnScope ["timer", "on", "limit", "now"] ["timer", "on", "limit", "now"] (defScope s_delay_on) := ⟨rfl, rfl, rfl, by decide +kernel, rfl, by decide +kernel, by decide +kernel⟩
theorem ok_don {f : Addr} {fd : FuncData} (F : Fun K "delay_on" "delay_on" s_delay_on f fd) (T : TimTxt K mg CT fI fdI) (hm : mg "min" = none) : FnOk P w K mg base CX0 1 f fd ["timer", "on", "limit", "now"] (spDel CT .ton) := by
  refine F.ok sc_don del_len (fun cdv A outer s H vs Q E hr h => ?_)
  refine ⟨_, pss_cons (ps_if (pt_not (pt_val (pv 1))) (pss_cons (ps_fld (pv 0) pe_int rfl) (pss_cons (ps_fld (pv 0) pe_bl rfl) (pss_one ps_retN))) pss_nil)
    (C8.pss_cut (ps_if (pt_not (pt_val (pe_fld (pv 0) (by rfl)))) (pss_one (ps_fld (pv 0) (pv 3) rfl)) pss_nil)
    (pss_cons (ps_fld (pv 0) (pe_callB (call_min2 rfl) (by rfl) hm (by decide +kernel) (pa_cons (pe_op op_sub (pv 3) (pe_fld (pv 0) (by rfl))) (pa_cons (pv 2) pa_nil))) rfl)
    (pss_one (ps_fld (pv 0) (pe_cmpR op_eq (pe_fld (pv 0) (by rfl)) (pv 2) (nomark _)) rfl)))), ?_⟩
  obtain ⟨a, dx, t, on, lim, now, rfl, ha, hs, k⟩ := h
  have o0 := Obj1.refl ha
  refine ⟨_, rfl, _, rfl, ?_⟩
  cases on with
  | false =>
    have o1 := o0.put (congrArg (HO.ins CT dx) (tim_el t 0))
    refine iteT ⟨_, rfl, a, CT, dx, _, rfl, ha, T.cl, T.nE, (by show 5 < 1000; decide), ?_⟩
    exact ⟨_, rfl, a, CT, dx, _, rfl, o1.at_, T.cl, T.nB, (by show 5 < 1000; decide), k _ (o1.put (congrArg (HO.ins CT dx) (tim_bit _ _)))⟩
  | true =>
    refine iteF ?_
    refine ⟨fun σ' H' => σ' = [some (.ref a), some (.bl true), some (.int lim), some (.int now)] ∧ Obj1 H H' a (.ins CT dx (timF { t with since := if t.was = true then t.since else now })), ?_, ?_⟩
    · refine ⟨_, rfl, a, CT, dx, _, _, rfl, ha, T.cl, T.nW, tim_gwas _, _, rfl, ?_⟩
      by_cases cw : t.was = true
      · refine if_f (by rw [cw]; rfl) ⟨rfl, ?_⟩
        rw [if_pos cw]
        exact o0
      · refine if_t (by simpa using cw) ⟨_, rfl, _, rfl, a, CT, dx, _, rfl, ha, T.cl, T.nS, (by show 5 < 1000; decide), rfl, ?_⟩
        rw [if_neg cw]
        exact o0.put (congrArg (HO.ins CT dx) (tim_since t now))
    · rintro σ' H1 ⟨rfl, o1⟩
      have hb : (if t.was = true then t.since else now) ≤ now := by
        split
        · exact hs
        · exact Nat.le_refl _
      generalize hbb : (if t.was = true then t.since else now) = b at o1 hb
      have o2 := o1.put (u := .ins CT dx (putF "elapsed" (.int (if (lim : Int) < (now : Int) - (b : Int) then (lim : Int) else (now : Int) - (b : Int))) (timF { t with since := b }))) (o' := .ins CT dx (timF { t with since := b, time := min (now - b) lim })) (congrArg (HO.ins CT dx) (by rw [min_is hb]; exact tim_el _ _))
      refine ⟨_, rfl, _, rfl, a, CT, dx, _, _, rfl, o1.at_, T.cl, T.nS, tim_gsince _, _, _, rfl, rfl, _, rfl, _, _, rfl, ?_⟩
      refine ⟨_, rfl, a, CT, dx, _, rfl, o1.at_, T.cl, T.nE, (by show 5 < 1000; decide), ?_⟩
      refine ⟨_, rfl, a, CT, dx, _, _, rfl, o2.at_, T.cl, T.nE, tim_gel _, _, rfl, rfl, ?_⟩
      refine ⟨_, rfl, a, CT, dx, _, rfl, o2.at_, T.cl, T.nB, (by show 5 < 1000; decide), k _ (o2.put (congrArg (HO.ins CT dx) ?_))⟩
      rw [nat_eq, tim_bit]
      refine congrArg timF ?_
      show (⟨t.was, t.run, b, min (now - b) lim, min (now - b) lim == lim⟩ : Sf47.Tim) = ⟨t.was, t.run, if t.was = true then t.since else now, min (now - (if t.was = true then t.since else now)) lim, min (now - (if t.was = true then t.since else now)) lim == lim⟩
      rw [hbb]
theorem sc_dof : FnScope ["timer", "on", "limit", "now"] ["timer", "on", "limit", "now"] (defScope s_delay_off) := ⟨rfl, rfl, rfl, by decide +kernel, rfl, by decide +kernel, by decide +kernel⟩
theorem ok_dof {f : Addr} {fd : FuncData} (F : Fun K "delay_off" "delay_off" s_delay_off f fd) (T : TimTxt K mg CT fI fdI) (hm : mg "min" = none) : FnOk P w K mg base CX0 1 f fd ["timer", "on", "limit", "now"] (spDel CT .tof) := by
  refine F.ok sc_dof del_len (fun cdv A outer s H vs Q E hr h => ?_)
  refine ⟨_, pss_cons (ps_if (pt_val (pv 1)) (pss_cons (ps_fld (pv 0) pe_bl rfl) (pss_cons (ps_fld (pv 0) pe_int rfl) (pss_cons (ps_fld (pv 0) pe_bl rfl) (pss_one ps_retN)))) pss_nil)
    (C8.pss_cut (ps_if (pt_val (pe_fld (pv 0) (by rfl))) (pss_one (ps_fld (pv 0) (pv 3) rfl)) pss_nil)
    (pss_cons (ps_fld (pv 0) (pe_ifExp (pt_val (pe_fld (pv 0) (by rfl))) (pe_callB (call_min2 rfl) (by rfl) hm (by decide +kernel) (pa_cons (pe_op op_sub (pv 3) (pe_fld (pv 0) (by rfl))) (pa_cons (pv 2) pa_nil))) pe_int) rfl)
    (pss_one (ps_fld (pv 0) (pe_and (pe_fld (pv 0) (by rfl)) (pe_one (pe_cmpR op_lt (pe_fld (pv 0) (by rfl)) (pv 2) (nomark _)))) rfl)))), ?_⟩
  obtain ⟨a, dx, t, on, lim, now, rfl, ha, hs, k⟩ := h
  have o0 := Obj1.refl ha
  refine ⟨_, rfl, _, rfl, ?_⟩
  cases on with
  | true =>
    have o1 := o0.put (congrArg (HO.ins CT dx) (tim_run t true))
    have o2 := o1.put (congrArg (HO.ins CT dx) (tim_el { t with run := true } 0))
    refine iteT ⟨_, rfl, a, CT, dx, _, rfl, ha, T.cl, T.nR, (by show 5 < 1000; decide), ?_⟩
    refine ⟨_, rfl, a, CT, dx, _, rfl, o1.at_, T.cl, T.nE, (by show 5 < 1000; decide), ?_⟩
    exact ⟨_, rfl, a, CT, dx, _, rfl, o2.at_, T.cl, T.nB, (by show 5 < 1000; decide), k _ (o2.put (congrArg (HO.ins CT dx) (tim_bit _ _)))⟩
  | false =>
    refine iteF ?_
    refine ⟨fun σ' H' => σ' = [some (.ref a), some (.bl false), some (.int lim), some (.int now)] ∧ Obj1 H H' a (.ins CT dx (timF { t with since := if t.was = true then now else t.since })), ?_, ?_⟩
    · refine ⟨_, rfl, a, CT, dx, _, _, rfl, ha, T.cl, T.nW, tim_gwas _, _, rfl, ?_⟩
      by_cases cw : t.was = true
      · refine if_t cw ⟨_, rfl, _, rfl, a, CT, dx, _, rfl, ha, T.cl, T.nS, (by show 5 < 1000; decide), rfl, ?_⟩
        rw [if_pos cw]
        exact o0.put (congrArg (HO.ins CT dx) (tim_since t now))
      · refine if_f (by simpa using cw) ⟨rfl, ?_⟩
        rw [if_neg cw]
        exact o0
    · rintro σ' H1 ⟨rfl, o1⟩
      have hb : (if t.was = true then now else t.since) ≤ now := by
        split
        · exact Nat.le_refl _
        · exact hs
      generalize hbb : (if t.was = true then now else t.since) = b at o1 hb
      refine ⟨_, rfl, a, CT, dx, _, _, rfl, o1.at_, T.cl, T.nR, tim_grun _, _, rfl, ?_⟩
      by_cases cr : t.run = true
      · refine if_t cr ?_
        have o2 := o1.put (u := .ins CT dx (putF "elapsed" (.int (if (lim : Int) < (now : Int) - (b : Int) then (lim : Int) else (now : Int) - (b : Int))) (timF { t with since := b }))) (o' := .ins CT dx (timF { t with since := b, time := min (now - b) lim })) (congrArg (HO.ins CT dx) (by rw [min_is hb]; exact tim_el _ _))
        refine ⟨_, rfl, _, rfl, a, CT, dx, _, _, rfl, o1.at_, T.cl, T.nS, tim_gsince _, _, _, rfl, rfl, _, rfl, _, _, rfl, ?_⟩
        refine ⟨_, rfl, a, CT, dx, _, rfl, o1.at_, T.cl, T.nE, (by show 5 < 1000; decide), ?_⟩
        refine ⟨_, rfl, a, CT, dx, _, _, rfl, o2.at_, T.cl, T.nR, tim_grun _, _, rfl, ?_⟩
        refine if_t cr ⟨_, rfl, a, CT, dx, _, _, rfl, o2.at_, T.cl, T.nE, tim_gel _, _, rfl, _, _, rfl, rfl, ?_⟩
        refine ⟨_, rfl, a, CT, dx, _, rfl, o2.at_, T.cl, T.nB, (by show 5 < 1000; decide), k _ (o2.put (congrArg (HO.ins CT dx) ?_))⟩
        show putF "bit" (.bl (decide (((min (now - b) lim : Nat) : Int) < (lim : Int)))) _ = _
        rw [nat_lt, tim_bit]
        refine congrArg timF ?_
        unfold Sf47.Tim.use
        dsimp only
        rw [if_neg Bool.false_ne_true, if_pos cr, hbb, cr]
      · have cr : t.run = false := by simpa using cr
        refine if_f cr ?_
        have o2 := o1.put (congrArg (HO.ins CT dx) (tim_el { t with since := b } 0))
        refine ⟨_, rfl, a, CT, dx, _, rfl, o1.at_, T.cl, T.nE, (by show 5 < 1000; decide), ?_⟩
        refine ⟨_, rfl, a, CT, dx, _, _, rfl, o2.at_, T.cl, T.nR, tim_grun _, _, rfl, ?_⟩
        refine if_f cr ⟨_, rfl, a, CT, dx, _, rfl, o2.at_, T.cl, T.nB, (by show 5 < 1000; decide), k _ (o2.put (congrArg (HO.ins CT dx) ?_))⟩
        rw [tim_bit]
        refine congrArg timF ?_
        unfold Sf47.Tim.use
        dsimp only
        rw [if_neg Bool.false_ne_true, if_neg (by rw [cr]; exact Bool.false_ne_true), hbb, cr]
theorem tp_is (t : Sf47.Tim) (x : Bool) (w now b : Nat) (hb : b = if (x && (!t.was && !t.on)) = true then now else t.since) :
    { t.use .tp x w now with was := t.was } = (let e := if (x && (!t.was && !t.on)) = true ∨ t.on = true then min (now - b) w else t.time
      let o := if (x && (!t.was && !t.on)) = true ∨ t.on = true then decide (e < w) else t.on
      (⟨t.was, o, b, if (!o && !x) = true then 0 else e, o⟩ : Sf47.Tim)) := by
  unfold Sf47.Tim.use
  dsimp only
  rw [← hb]
  by_cases c : (x && (!t.was && !t.on)) = true ∨ t.on = true
  · simp only [if_pos c]
    by_cases q : min (now - b) w = w
    · rw [if_pos q, q, decide_eq_false (by omega)]
      cases x <;> rfl
    · rw [if_neg q, decide_eq_true (by omega)]
      rfl
  · simp only [if_neg c]
    have on : t.on = false := by
      cases h : t.on with
      | false => rfl
      | true => exact absurd (.inr h) c
    rw [on]
    cases x <;> rfl
theorem sc_pul : FnScope ["timer", "on", "limit", "now", "begins"] ["timer", "on", "limit", "now"] (defScope s_pulse) := ⟨rfl, rfl, rfl, by decide +kernel, rfl, by decide +kernel, by decide +kernel⟩
theorem ok_pul {f : Addr} {fd : FuncData} (F : Fun K "pulse" "pulse" s_pulse f fd) (T : TimTxt K mg CT fI fdI) (hm : mg "min" = none) : FnOk P w K mg base CX0 1 f fd ["timer", "on", "limit", "now"] (spDel CT .tp) := by
  refine F.ok sc_pul del_len (fun cdv A outer s H vs Q E hr h => ?_)
  refine ⟨_, C8.pss_cut (ps_set (i := 4) sc_pul.nd rfl (Or.inl rfl) (pe_and (pv 1) (pe_and (pe_not (pe_fld (pv 0) (by rfl))) (pe_one (pe_not (pe_fld (pv 0) (by rfl)))))))
    (C8.pss_cut (ps_if (pt_val (pv 4)) (pss_one (ps_fld (pv 0) (pv 3) rfl)) pss_nil)
    (C8.pss_cut (ps_if (PW.pt (pw_or (pt_val (pv 4)) (pw_or1 (pt_val (pe_fld (pv 0) (by rfl))))))
      (pss_cons (ps_fld (pv 0) (pe_callB (call_min2 rfl) (by rfl) hm (by decide +kernel) (pa_cons (pe_op op_sub (pv 3) (pe_fld (pv 0) (by rfl))) (pa_cons (pv 2) pa_nil))) rfl)
        (pss_one (ps_fld (pv 0) (pe_cmpR op_lt (pe_fld (pv 0) (by rfl)) (pv 2) (nomark _)) rfl))) pss_nil)
    (pss_cons (ps_fld (pv 0) (pe_fld (pv 0) (by rfl)) rfl)
    (pss_one (ps_if (PW.pt (pw_and (pt_not (pt_val (pe_fld (pv 0) (by rfl)))) (pw_and1 (pt_not (pt_val (pv 1)))))) (pss_one (ps_fld (pv 0) pe_int rfl)) pss_nil))))), ?_⟩
  obtain ⟨a, dx, t, on, lim, now, rfl, ha, hs, k⟩ := h
  have o0 := Obj1.refl ha
  refine ⟨fun σ' H' => σ' = [some (.ref a), some (.bl on), some (.int lim), some (.int now), some (.bl (on && (!t.was && !t.on)))] ∧ H' = H, ?_, ?_⟩
  · refine ⟨_, rfl, _, rfl, ?_⟩
    cases on with
    | false => exact iteF ⟨rfl, rfl⟩
    | true =>
      refine iteT ⟨_, rfl, a, CT, dx, _, _, rfl, ha, T.cl, T.nW, tim_gwas _, _, rfl, _, rfl, ?_⟩
      by_cases cw : t.was = true
      · refine if_f (by rw [cw]; rfl) ⟨?_, rfl⟩
        rw [cw]
        rfl
      · have cw : t.was = false := by simpa using cw
        refine if_t (by rw [cw]; rfl) ⟨_, rfl, a, CT, dx, _, _, rfl, ha, T.cl, T.nB, tim_gbit _, _, rfl, ?_, rfl⟩
        rw [cw]
        rfl
  rintro σ' H' ⟨rfl, rfl⟩
  generalize hst : (on && (!t.was && !t.on)) = st
  refine ⟨fun σ' H1 => σ' = [some (.ref a), some (.bl on), some (.int lim), some (.int now), some (.bl st)] ∧ Obj1 H' H1 a (.ins CT dx (timF { t with since := if st = true then now else t.since })), ?_, ?_⟩
  · refine ⟨_, rfl, _, rfl, ?_⟩
    cases st with
    | true => exact iteT ⟨_, rfl, _, rfl, a, CT, dx, _, rfl, ha, T.cl, T.nS, (by show 5 < 1000; decide), rfl, o0.put (congrArg (HO.ins CT dx) (tim_since t now))⟩
    | false => exact iteF ⟨rfl, o0⟩
  rintro σ' H1 ⟨rfl, o1⟩
  have hb : (if st = true then now else t.since) ≤ now := by
    split
    · exact Nat.le_refl _
    · exact hs
  have tp := tp_is t on lim now (if st = true then now else t.since) (by rw [hst])
  rw [hst] at tp
  generalize hbb : (if st = true then now else t.since) = b at o1 hb tp
  refine ⟨fun σ' H2 => σ' = [some (.ref a), some (.bl on), some (.int lim), some (.int now), some (.bl st)] ∧ Obj1 H' H2 a (.ins CT dx (timF { t with since := b, time := if st = true ∨ t.on = true then min (now - b) lim else t.time, on := if st = true ∨ t.on = true then decide ((if st = true ∨ t.on = true then min (now - b) lim else t.time) < lim) else t.on })), ?_, ?_⟩
  · refine ⟨_, rfl, _, rfl, ?_⟩
    by_cases c1 : st = true
    · refine if_t c1 (iteT ?_)
      have c : st = true ∨ t.on = true := .inl c1
      have o2 := o1.put (u := .ins CT dx (putF "elapsed" (.int (if (lim : Int) < (now : Int) - (b : Int) then (lim : Int) else (now : Int) - (b : Int))) (timF { t with since := b }))) (o' := .ins CT dx (timF { t with since := b, time := min (now - b) lim })) (congrArg (HO.ins CT dx) (by rw [min_is hb]; exact tim_el _ _))
      refine ⟨_, rfl, _, rfl, a, CT, dx, _, _, rfl, o1.at_, T.cl, T.nS, tim_gsince _, _, _, rfl, rfl, _, rfl, _, _, rfl, ?_⟩
      refine ⟨_, rfl, a, CT, dx, _, rfl, o1.at_, T.cl, T.nE, (by show 5 < 1000; decide), ?_⟩
      refine ⟨_, rfl, a, CT, dx, _, _, rfl, o2.at_, T.cl, T.nE, tim_gel _, _, rfl, _, _, rfl, rfl, ?_⟩
      refine ⟨_, rfl, a, CT, dx, _, rfl, o2.at_, T.cl, T.nB, (by show 5 < 1000; decide), rfl, ?_⟩
      rw [if_pos c, if_pos c]
      refine o2.put (congrArg (HO.ins CT dx) ?_)
      show putF "bit" (.bl (decide (((min (now - b) lim : Nat) : Int) < (lim : Int)))) _ = _
      rw [nat_lt, tim_bit]
    · refine if_f (by simpa using c1) ?_
      refine ⟨_, rfl, a, CT, dx, _, _, rfl, o1.at_, T.cl, T.nB, tim_gbit _, _, rfl, ?_⟩
      by_cases c2 : t.on = true
      · refine if_t c2 ?_
        have c : st = true ∨ t.on = true := .inr c2
        have o2 := o1.put (u := .ins CT dx (putF "elapsed" (.int (if (lim : Int) < (now : Int) - (b : Int) then (lim : Int) else (now : Int) - (b : Int))) (timF { t with since := b }))) (o' := .ins CT dx (timF { t with since := b, time := min (now - b) lim })) (congrArg (HO.ins CT dx) (by rw [min_is hb]; exact tim_el _ _))
        refine ⟨_, rfl, _, rfl, a, CT, dx, _, _, rfl, o1.at_, T.cl, T.nS, tim_gsince _, _, _, rfl, rfl, _, rfl, _, _, rfl, ?_⟩
        refine ⟨_, rfl, a, CT, dx, _, rfl, o1.at_, T.cl, T.nE, (by show 5 < 1000; decide), ?_⟩
        refine ⟨_, rfl, a, CT, dx, _, _, rfl, o2.at_, T.cl, T.nE, tim_gel _, _, rfl, _, _, rfl, rfl, ?_⟩
        refine ⟨_, rfl, a, CT, dx, _, rfl, o2.at_, T.cl, T.nB, (by show 5 < 1000; decide), rfl, ?_⟩
        rw [if_pos c, if_pos c]
        refine o2.put (congrArg (HO.ins CT dx) ?_)
        show putF "bit" (.bl (decide (((min (now - b) lim : Nat) : Int) < (lim : Int)))) _ = _
        rw [nat_lt, tim_bit]
      · refine if_f (by simpa using c2) ⟨rfl, ?_⟩
        have c : ¬ (st = true ∨ t.on = true) := fun q => q.elim c1 c2
        rw [if_neg c, if_neg c]
        exact o1
  rintro σ' H2 ⟨rfl, o2⟩
  dsimp only at tp
  generalize (if st = true ∨ t.on = true then min (now - b) lim else t.time) = e at o2 tp
  generalize (if st = true ∨ t.on = true then decide (e < lim) else t.on) = o at o2 tp
  have o3 := o2.put (congrArg (HO.ins CT dx) (tim_run { t with since := b, time := e, on := o } o))
  refine ⟨_, rfl, a, CT, dx, _, _, rfl, o2.at_, T.cl, T.nB, tim_gbit _, ?_⟩
  refine ⟨_, rfl, a, CT, dx, _, rfl, o2.at_, T.cl, T.nR, (by show 5 < 1000; decide), ?_⟩
  refine ⟨_, rfl, a, CT, dx, _, _, rfl, o3.at_, T.cl, T.nB, tim_gbit _, _, rfl, ?_⟩
  cases o with
  | true =>
    refine iteF (iteF (k _ ?_))
    rw [tp]
    exact o3
  | false =>
    refine iteT ⟨_, rfl, _, rfl, ?_⟩
    cases on with
    | true =>
      refine iteF (k _ ?_)
      rw [tp]
      exact o3
    | false =>
      refine iteT ⟨_, rfl, a, CT, dx, _, rfl, o3.at_, T.cl, T.nE, (by show 5 < 1000; decide), k _ ?_⟩
      rw [tp]
      exact o3.put (congrArg (HO.ins CT dx) (tim_el { t with since := b, time := e, on := false, run := false } 0))
/-! ### use_timer -/
def timName : Sf47.Timer → Bytes
  | .ton => Sf47.txt "TON"
  | .tof => Sf47.txt "TOF"
  | .tp => Sf47.txt "TP"
def spUse (CT : Addr) : Sp := fun vs H Q _ => ∃ (a dx : Addr) (t : Sf47.Tim) (k : Sf47.Timer) (on : Bool) (lim now : Nat), vs = [.ref a, .str (S (timName k)), .bl on, .int lim, .int now] ∧ H a = some (.ins CT dx (timF t)) ∧ t.since ≤ now ∧ ∀ H', Obj1 H H' a (.ins CT dx (timF (t.use k on lim now))) → Q .non H'
theorem sc_use : FnScope ["timer", "name", "on", "limit", "now"] ["timer", "name", "on", "limit", "now"] (defScope s_use_timer) := ⟨rfl, rfl, rfl, by decide +kernel, rfl, by decide +kernel, by decide +kernel⟩
theorem ok_use {f : Addr} {fd : FuncData} (F : Fun K "use_timer" "use_timer" s_use_timer f fd) (T : TimTxt K mg CT fI fdI) (N : Df P w K mg base CX0 1 "delay_on" ["timer", "on", "limit", "now"] (spDel CT .ton)) (O : Df P w K mg base CX0 1 "delay_off" ["timer", "on", "limit", "now"] (spDel CT .tof)) (U : Df P w K mg base CX0 1 "pulse" ["timer", "on", "limit", "now"] (spDel CT .tp)) :
    FnOk P w K mg base CX0 2 f fd ["timer", "name", "on", "limit", "now"] (spUse CT) := by
  obtain ⟨fN, fdN, mN, kN, bN, FN⟩ := N
  obtain ⟨fO, fdO, mO, kO, bO, FO⟩ := O
  obtain ⟨fU, fdU, mU, kU, bU, FU⟩ := U
  refine F.ok sc_use (fun vs H Q E h => ?_) (fun cdv A outer s H vs Q E hr h => ?_)
  · obtain ⟨a, dx, t, k, on, lim, now, rfl, _⟩ := h
    rfl
  · refine ⟨_, C8.pss_cut (ps_if (pt_cmpR op_eq (pv 1) pe_str (nomark _)) (pss_one (ps_expr (pe_call FN hr (by rfl) mN kN bN .nil pass0 (pa_cons (pv 0) (pa_cons (pv 2) (pa_cons (pv 3) (pa_cons (pv 4) pa_nil)))))))
        (pss_one (ps_if (pt_cmpR op_eq (pv 1) pe_str (nomark _)) (pss_one (ps_expr (pe_call FO hr (by rfl) mO kO bO .nil pass0 (pa_cons (pv 0) (pa_cons (pv 2) (pa_cons (pv 3) (pa_cons (pv 4) pa_nil)))))))
          (pss_one (ps_expr (pe_call FU hr (by rfl) mU kU bU .nil pass0 (pa_cons (pv 0) (pa_cons (pv 2) (pa_cons (pv 3) (pa_cons (pv 4) pa_nil))))))))))
      (pss_one (ps_fld (pv 0) (pv 2) rfl)), ?_⟩
    obtain ⟨a, dx, t, k, on, lim, now, rfl, ha, hs, kS⟩ := h
    refine ⟨fun σ' H' => σ' = [some (.ref a), some (.str (S (timName k))), some (.bl on), some (.int lim), some (.int now)] ∧ Obj1 H H' a (.ins CT dx (timF { t.use k on lim now with was := t.was })), ?_, ?_⟩
    · refine ⟨_, rfl, rfl, _, rfl, ?_⟩
      cases k with
      | ton => exact if_t (by decide +kernel) ⟨_, rfl, _, rfl, _, rfl, _, rfl, a, dx, t, on, lim, now, rfl, ha, hs, fun H1 o => ⟨rfl, o⟩⟩
      | tof => exact if_f (by decide +kernel) ⟨_, rfl, rfl, _, rfl, if_t (by decide +kernel) ⟨_, rfl, _, rfl, _, rfl, _, rfl, a, dx, t, on, lim, now, rfl, ha, hs, fun H1 o => ⟨rfl, o⟩⟩⟩
      | tp => exact if_f (by decide +kernel) ⟨_, rfl, rfl, _, rfl, if_f (by decide +kernel) ⟨_, rfl, _, rfl, _, rfl, _, rfl, a, dx, t, on, lim, now, rfl, ha, hs, fun H1 o => ⟨rfl, o⟩⟩⟩
    · rintro σ' H1 ⟨rfl, o⟩
      refine ⟨_, rfl, _, rfl, a, CT, dx, _, rfl, o.at_, T.cl, T.nW, (by show 5 < 1000; decide), kS _ (o.put (congrArg (HO.ins CT dx) ?_))⟩
      rw [tim_was]
      refine congrArg timF ?_
      have e := use_was t k on lim now
      generalize t.use k on lim now = u at e
      obtain ⟨u1, u2, u3, u4, u5⟩ := u
      have e : u1 = on := e
      subst e
      rfl
end
end Sl
set_option Elab.async false
set_option linter.all false
set_option maxRecDepth 100000
set_option maxHeartbeats 4000000
namespace Sl
open PySem PySem.Spec PyProof.Rows L2 SlM
/-- what the text says of Machine -/
structure MTxt (K : PySem.W.Frag) (mg : Str → Option Value) (CM fI : Addr) (fdI : FuncData) : Prop where
  gC : mg "Machine" = some (.ref CM)
  cl : Cls K CM
  nC : NoAttr K CM "cells"
  nT : NoAttr K CM "timers"
  nU : NoAttr K CM "counters"
  nN : NoAttr K CM "now"
  nR : NoAttr K CM "result"
  nP : NoAttr K CM "put_by"
  nA : NoAttr K CM "at"
  mkC : Mk K CM fI
  fi : Fun K "__init__" "Machine.__init__" s_machine_init fI fdI
/-- the three classes of a layout -/
def LOk (CM CT CC : Addr) (L : Lay) : Prop := L.CM = CM ∧ L.CT = CT ∧ L.CC = CC ∧ L.Inj
theorem cell_E (L : Lay) : L2.valV (cellsK L.A) (Sum.inr "E" : Key) = some (.ref (L.A 9)) := by kernel_rfl
theorem cell_T (L : Lay) : L2.valV (cellsK L.A) (Sum.inr "T" : Key) = some (.ref (L.A 7)) := by kernel_rfl
theorem cell_V (L : Lay) : L2.valV (cellsK L.A) (Sum.inr "V" : Key) = some (.ref (L.A 10)) := by kernel_rfl
theorem cell_C (L : Lay) : L2.valV (cellsK L.A) (Sum.inr "C" : Key) = some (.ref (L.A 8)) := by kernel_rfl
theorem cell_I (L : Lay) : L2.valV (cellsK L.A) (Sum.inr "I" : Key) = some (.ref (L.A 4)) := by kernel_rfl
theorem cell_Q (L : Lay) : L2.valV (cellsK L.A) (Sum.inr "Q" : Key) = some (.ref (L.A 5)) := by kernel_rfl
theorem cell_W (L : Lay) : L2.valV (cellsK L.A) (Sum.inr "W" : Key) = some (.ref (L.A 3)) := by kernel_rfl
theorem Mach.cells {L : Lay} {p : PM} {H : Hp} (h : Mach L p H) {k : Key} {v : V} (e : L2.valV (cellsK L.A) k = some v) : DGet H (L.A 1) (kV k) (some v) := by
  rw [← e]
  exact DGet.k (h 1 (by decide))
theorem tims_at (L : Lay) {n : Nat} (h : n < 32) : atI ((List.range 32).map fun k => V.ref (L.A (k + 14))) (n : Int) = some (.ref (L.A (n + 14))) :=
  atI_nat (by rw [List.getElem?_map, List.getElem?_range h]; rfl)
theorem cnts_at (L : Lay) {n : Nat} (h : n < 32) : atI ((List.range 32).map fun k => V.ref (L.A (k + 46))) (n : Int) = some (.ref (L.A (n + 46))) :=
  atI_nat (by rw [List.getElem?_map, List.getElem?_range h]; rfl)
theorem Mach.tim {L : Lay} {p : PM} {H : Hp} (h : Mach L p H) {n : Nat} (hn : n < 32) : H (L.A (n + 14)) = some (.ins L.CT (L.D (n + 14)) (timF (p.tim n))) := by
  rw [h _ (by omega), img_tim L p hn]
theorem Mach.cnt {L : Lay} {p : PM} {H : Hp} (h : Mach L p H) {n : Nat} (hn : n < 32) : H (L.A (n + 46)) = some (.ins L.CC (L.D (n + 46)) (cntF (p.cnt n))) := by
  rw [h _ (by omega), img_cnt]
section
variable {P : Program} {w : World} {K : PySem.W.Frag} {mg : Str → Option Value} {base : Heap} {CM CT CC fM fT fC : Addr} {fdM fdT fdC : FuncData}
def spShT (CM CT CC : Addr) : Sp := fun vs H Q _ => ∃ (L : Lay) (p : PM) (n : Nat), vs = [.ref (L.A 0), .int n] ∧ LOk CM CT CC L ∧ Mach L p H ∧ n < 32 ∧ p.e.length = 32 ∧ p.t.length = 32 ∧
  ∀ H', Mach L { p with e := p.e.set n (.int (p.tim n).time), t := p.t.set n (.bl (p.tim n).on) } H' → Frame L H H' → Q .non H'
theorem sc_ShT : FnScope ["machine", "number", "timer"] ["machine", "number"] (defScope s_show_timer) := ⟨rfl, rfl, rfl, by decide +kernel, rfl, by decide +kernel, by decide +kernel⟩
theorem ok_ShT {f : Addr} {fd : FuncData} (F : Fun K "show_timer" "show_timer" s_show_timer f fd) (M : MTxt K mg CM fM fdM) (T : TimTxt K mg CT fT fdT) : FnOk P w K mg base CX0 1 f fd ["machine", "number"] (spShT CM CT CC) := by
  refine F.ok sc_ShT (fun vs H Q E h => ?_) (fun cdv A outer s H vs Q E hr h => ?_)
  · obtain ⟨L, p, n, rfl, _⟩ := h
    rfl
  · have hu := hu_of hr
    refine ⟨_, pss_cons (ps_set (i := 2) sc_ShT.nd rfl (Or.inl rfl) (pe_ix ix_list (pe_fld (pv 0) (by rfl)) (pv 1) (fun _ _ => rfl)))
      (pss_cons (ps_asg (pe_fld (pv 2) (by rfl)) (pg_sub (pe_dget hu (pe_fld (pv 0) (by rfl)) pe_str (fun _ _ => rfl)) (pv 1) set_list))
      (pss_one (ps_asg (pe_fld (pv 2) (by rfl)) (pg_sub (pe_dget hu (pe_fld (pv 0) (by rfl)) pe_str (fun _ _ => rfl)) (pv 1) set_list)))), ?_⟩
    obtain ⟨L, p, n, rfl, ⟨rfl, rfl, rfl, hI⟩, h, hn, l1, l2, k⟩ := h
    refine ⟨_, rfl, L.A 0, _, _, _, _, rfl, h 0 (by decide), M.cl, M.nT, get_timers _ _ _ _ _ _ _, _, rfl, _, _, _, _, rfl, rfl, SqL.of (h 11 (by decide)), tims_at L hn, ?_⟩
    have ht := h.tim hn
    refine ⟨_, rfl, _, _, _, _, _, rfl, ht, T.cl, T.nE, tim_gel _, ?_⟩
    refine ⟨_, rfl, L.A 0, _, _, _, _, rfl, h 0 (by decide), M.cl, M.nC, get_cells _ _ _ _ _ _ _, _, _, rfl, h.cells (cell_E L), _, rfl, _, _, _, n, rfl, rfl, h 9 (by decide), ixN_at (by rw [l1]; exact hn), ?_⟩
    have h1 := h.setE hI (p.e.set n (.int (p.tim n).time))
    have ht1 := h1.tim hn
    refine ⟨_, rfl, _, _, _, _, _, rfl, ht1, T.cl, T.nB, tim_gbit _, ?_⟩
    refine ⟨_, rfl, L.A 0, _, _, _, _, rfl, h1 0 (by decide), M.cl, M.nC, get_cells _ _ _ _ _ _ _, _, _, rfl, h1.cells (cell_T L), _, rfl, _, _, _, n, rfl, rfl, h1 7 (by decide), ixN_at (by rw [l2]; exact hn), ?_⟩
    exact k _ (h1.setT hI (p.t.set n (.bl (p.tim n).on))) ((Frame.put (j := 9) (by decide)).trans (Frame.put (j := 7) (by decide)))
def spShC (CM CT CC : Addr) : Sp := fun vs H Q _ => ∃ (L : Lay) (p : PM) (n : Nat), vs = [.ref (L.A 0), .int n] ∧ LOk CM CT CC L ∧ Mach L p H ∧ n < 32 ∧ p.v.length = 32 ∧ p.c.length = 32 ∧
  ∀ H', Mach L { p with v := p.v.set n (.int (p.cnt n).value), c := p.c.set n (.bl (p.cnt n).on) } H' → Frame L H H' → Q .non H'
theorem sc_ShC : FnScope ["machine", "number", "counter"] ["machine", "number"] (defScope s_show_counter) := ⟨rfl, rfl, rfl, by decide +kernel, rfl, by decide +kernel, by decide +kernel⟩
theorem ok_ShC {f : Addr} {fd : FuncData} (F : Fun K "show_counter" "show_counter" s_show_counter f fd) (M : MTxt K mg CM fM fdM) (T : CntTxt K mg CC fC fdC) : FnOk P w K mg base CX0 1 f fd ["machine", "number"] (spShC CM CT CC) := by
  refine F.ok sc_ShC (fun vs H Q E h => ?_) (fun cdv A outer s H vs Q E hr h => ?_)
  · obtain ⟨L, p, n, rfl, _⟩ := h
    rfl
  · have hu := hu_of hr
    refine ⟨_, pss_cons (ps_set (i := 2) sc_ShC.nd rfl (Or.inl rfl) (pe_ix ix_list (pe_fld (pv 0) (by rfl)) (pv 1) (fun _ _ => rfl)))
      (pss_cons (ps_asg (pe_fld (pv 2) (by rfl)) (pg_sub (pe_dget hu (pe_fld (pv 0) (by rfl)) pe_str (fun _ _ => rfl)) (pv 1) set_list))
      (pss_one (ps_asg (pe_fld (pv 2) (by rfl)) (pg_sub (pe_dget hu (pe_fld (pv 0) (by rfl)) pe_str (fun _ _ => rfl)) (pv 1) set_list)))), ?_⟩
    obtain ⟨L, p, n, rfl, ⟨rfl, rfl, rfl, hI⟩, h, hn, l1, l2, k⟩ := h
    refine ⟨_, rfl, L.A 0, _, _, _, _, rfl, h 0 (by decide), M.cl, M.nU, get_counters _ _ _ _ _ _ _, _, rfl, _, _, _, _, rfl, rfl, SqL.of (h 12 (by decide)), cnts_at L hn, ?_⟩
    have ht := h.cnt hn
    refine ⟨_, rfl, _, _, _, _, _, rfl, ht, T.cl, T.nV, cnt_gval _, ?_⟩
    refine ⟨_, rfl, L.A 0, _, _, _, _, rfl, h 0 (by decide), M.cl, M.nC, get_cells _ _ _ _ _ _ _, _, _, rfl, h.cells (cell_V L), _, rfl, _, _, _, n, rfl, rfl, h 10 (by decide), ixN_at (by rw [l1]; exact hn), ?_⟩
    have h1 := h.setV hI (p.v.set n (.int (p.cnt n).value))
    have ht1 := h1.cnt hn
    refine ⟨_, rfl, _, _, _, _, _, rfl, ht1, T.cl, T.nB, cnt_gbit _, ?_⟩
    refine ⟨_, rfl, L.A 0, _, _, _, _, rfl, h1 0 (by decide), M.cl, M.nC, get_cells _ _ _ _ _ _ _, _, _, rfl, h1.cells (cell_C L), _, rfl, _, _, _, n, rfl, rfl, h1 8 (by decide), ixN_at (by rw [l2]; exact hn), ?_⟩
    exact k _ (h1.setC hI (p.c.set n (.bl (p.cnt n).on))) ((Frame.put (j := 10) (by decide)).trans (Frame.put (j := 8) (by decide)))
end
end Sl
set_option Elab.async false
set_option linter.all false
set_option maxRecDepth 100000
set_option maxHeartbeats 4000000
namespace Sl
open PySem PySem.Spec PyProof.Rows L2 SlM
theorem size_v : (sizeT.map fun p => (S p.1, V.int p.2)) = [(Str.ofString "I", .int 64), (Str.ofString "Q", .int 64), (Str.ofString "M", .int 256), (Str.ofString "T", .int 32), (Str.ofString "C", .int 32), (Str.ofString "W", .int 256), (Str.ofString "E", .int 32), (Str.ofString "V", .int 32)] := by kernel_rfl
def sizesV : List (Str × V) := [(Str.ofString "I", .int 64), (Str.ofString "Q", .int 64), (Str.ofString "M", .int 256), (Str.ofString "T", .int 32), (Str.ofString "C", .int 32), (Str.ofString "W", .int 256), (Str.ofString "E", .int 32), (Str.ofString "V", .int 32)]
theorem tb_is (n k : Nat) : decide (V.int (Builtin.bitAnd ((n : Int) / 2 ^ (0 + (k : Int)).toNat) 1) = V.int 1) = n.testBit k := by
  have e := Bits.bit_at (x := (n : Int)) k
  have hp : (0 : Int) ≤ 2 ^ k := by
    rw [show (2 : Int) ^ k = ((2 ^ k : Nat) : Int) from by simp]
    exact Int.natCast_nonneg _
  rw [Int.fdiv_eq_ediv_of_nonneg _ hp] at e
  rw [show (0 + (k : Int)).toNat = k from by omega, e, int_eq, show (2 : Int) ^ k = ((2 ^ k : Nat) : Int) from by simp]
  rw [show ((n : Int) / ((2 ^ k : Nat) : Int)) % 2 = ((n / 2 ^ k % 2 : Nat) : Int) from by simp]
  rw [Nat.testBit_eq_decide_div_mod_eq]
  by_cases c : n / 2 ^ k % 2 = 1
  · rw [decide_eq_true (by omega), decide_eq_true c]
  · rw [decide_eq_false (by omega), decide_eq_false c]
theorem set_app {f : Nat → V} {l : List V} {i : Nat} (h : i < l.length) : ((List.range i).map f ++ l.drop i).set i (f i) = (List.range (i + 1)).map f ++ l.drop (i + 1) := by
  rw [List.set_append_right _ _ (by simp), List.length_map, List.length_range, Nat.sub_self, List.drop_eq_getElem_cons h, List.set_cons_zero, List.range_succ, List.map_append, List.append_assoc]
  rfl
section
variable {P : Program} {w : World} {K : PySem.W.Frag} {mg : Str → Option Value} {base : Heap} {CM CT CC fM fT fC : Addr} {fdM fdT fdC : FuncData}
def spSize : Sp := fun vs H Q _ => ∃ (k : Str) (v : V), vs = [.str k] ∧ sizesV.lookup k = some v ∧ Q v H
theorem sc_siz : FnScope ["kind"] ["kind"] (defScope s_size_of) := ⟨rfl, rfl, rfl, by decide +kernel, rfl, by decide +kernel, by decide +kernel⟩
theorem ok_siz {f : Addr} {fd : FuncData} (F : Fun K "size_of" "size_of" s_size_of f fd) (Z : NumTab K w mg "SIZES" sizeT) : FnOk P w K mg base CX0 1 f fd ["kind"] spSize := by
  obtain ⟨dZ, mZ, TZ⟩ := Z
  rw [size_v] at TZ
  have hR : ∀ (b : V) (u : Value), L2.RelV b u → ∃ v, L2.RelV v u := fun b u r => ⟨b, r⟩
  refine F.ok sc_siz (fun vs H Q E h => ?_) (fun cdv A outer s H vs Q E hr h => ?_)
  · obtain ⟨k, v, rfl, _⟩ := h
    rfl
  · refine ⟨_, pss_one (ps_ret (pe_ix (ix_tab TZ hR) (pe_glob (v := .ref dZ) (by rfl) mZ rfl) (pv 0) (fun _ _ => rfl))), ?_⟩
    obtain ⟨k, v, rfl, hl, q⟩ := h
    refine ⟨_, rfl, k, v, rfl, rfl, hl, fun v' u r1 r2 => ?_⟩
    rw [relV_inj r2 r1]
    exact q
/-! ### begin_scan -/
def spBeg (CM CT CC : Addr) : Sp := fun vs H Q _ => ∃ (L : Lay) (p : PM) (bits now : Nat), vs = [.ref (L.A 0), .int bits, .int now] ∧ LOk CM CT CC L ∧ Mach L p H ∧ p.i.length = 64 ∧
  ∀ H', Mach L { p with i := (List.range 64).map fun k => .bl (bits.testBit k), now := now, res := .non, at_ := 0 } H' → Frame L H H' → Q .non H'
theorem sc_beg : FnScope ["machine", "bits", "now", "inputs", "number"] ["machine", "bits", "now"] (defScope s_begin_scan) := ⟨rfl, rfl, rfl, by decide +kernel, rfl, by decide +kernel, by decide +kernel⟩
theorem ok_beg {f : Addr} {fd : FuncData} (F : Fun K "begin_scan" "begin_scan" s_begin_scan f fd) (M : MTxt K mg CM fM fdM) (hrg : mg "range" = none) (Z : Df P w K mg base CX0 1 "size_of" ["kind"] spSize) : FnOk P w K mg base CX0 2 f fd ["machine", "bits", "now"] (spBeg CM CT CC) := by
  obtain ⟨fZ, fdZ, mZ, kZ, bZ, FZ⟩ := Z
  refine F.ok sc_beg (fun vs H Q E h => ?_) (fun cdv A outer s H vs Q E hr h => ?_)
  · obtain ⟨L, p, b, n, rfl, _⟩ := h
    rfl
  · have hu := hu_of hr
    refine ⟨_, pss_cons (ps_set (i := 3) sc_beg.nd rfl (Or.inl rfl) (pe_dget hu (pe_fld (pv 0) (by rfl)) pe_str (fun _ _ => rfl)))
      (pss_cons (ps_for PassesOwn.never rfl (pi_range1 (by rfl) hrg (pa_cons (pe_call FZ hr (by rfl) mZ kZ bZ .nil pass0 (pa_cons pe_str pa_nil)) pa_nil)) (pg_name (i := 4) sc_beg.nd rfl (Or.inl rfl))
        (pss_one (ps_asg (pe_cmpR op_eq (pe_op op_and (pe_op op_shr (pv 1) (pv 4)) pe_int) pe_int (nomark _)) (pg_sub (pv 3) (pv 4) set_list))))
      (pss_cons (ps_fld (pv 0) (pv 2) rfl) (pss_cons (ps_fld (pv 0) pe_non rfl) (pss_one (ps_fld (pv 0) pe_int rfl))))), ?_⟩
    obtain ⟨L, p, bits, now, rfl, ⟨rfl, rfl, rfl, hI⟩, h, hl, k⟩ := h
    refine ⟨_, rfl, L.A 0, _, _, _, _, rfl, h 0 (by decide), M.cl, M.nC, get_cells _ _ _ _ _ _ _, _, _, rfl, h.cells (cell_I L), ?_⟩
    refine ⟨_, .int 64, rfl, by decide +kernel, 64, rfl, by decide, by decide, ?_⟩
    refine for_range (lo := 0) (n := 64) (fun i σ H' => ∃ v, σ = [some (.ref (L.A 0)), some (.int bits), some (.int now), some (.ref (L.A 4)), v] ∧ Mach L { p with i := (List.range i).map (fun k => .bl (bits.testBit k)) ++ p.i.drop i } H' ∧ Frame L H H') ⟨none, rfl, h, Frame.refl L H⟩ ?_ ?_
    · rintro i σ H1 hi ⟨v, rfl, h1, f1⟩
      refine ⟨_, rfl, _, rfl, _, _, rfl, rfl, (by show (0 : Int) ≤ 0 + (i : Int); omega), _, _, rfl, rfl, rfl, ?_⟩
      refine ⟨_, rfl, _, rfl, L.A 4, _, _, i, rfl, rfl, h1 4 (by decide), ?_, ?_⟩
      · show ixN ((List.range i).map (fun k => V.bl (bits.testBit k)) ++ p.i.drop i).length (0 + (i : Int)) = some i
        rw [Int.zero_add]
        exact ixN_at (by rw [List.length_append, List.length_map, List.length_range, List.length_drop, hl]; omega)
      · refine ⟨_, rfl, ?_, f1.trans (Frame.put (j := 4) (by decide))⟩
        have z := h1.setI hI (((List.range i).map (fun k => V.bl (bits.testBit k)) ++ p.i.drop i).set i (.bl (bits.testBit i)))
        rw [set_app (f := fun k => V.bl (bits.testBit k)) (by rw [hl]; exact hi)] at z
        show Mach L _ (upd H1 (L.A 4) (.lst (((List.range i).map (fun k => V.bl (bits.testBit k)) ++ p.i.drop i).set i (.bl (decide (V.int (Builtin.bitAnd ((bits : Int) / 2 ^ (0 + (i : Int)).toNat) 1) = V.int 1))))))
        rw [tb_is, set_app (f := fun k => V.bl (bits.testBit k)) (by rw [hl]; exact hi)]
        exact z
    · rintro σ H1 ⟨v, rfl, h1, f1⟩
      rw [List.drop_of_length_le (by rw [hl]; exact Nat.le_refl _), List.append_nil] at h1
      have h2 := h1.setNow hI now
      have h3 := h2.setRes hI .non
      have h4 := h3.setAt hI 0
      refine ⟨_, rfl, _, rfl, L.A 0, _, _, _, rfl, h1 0 (by decide), M.cl, M.nN, (by show 7 < 1000; decide), ?_⟩
      refine ⟨_, rfl, L.A 0, _, _, _, rfl, h2 0 (by decide), M.cl, M.nR, (by show 7 < 1000; decide), ?_⟩
      exact ⟨_, rfl, L.A 0, _, _, _, rfl, h3 0 (by decide), M.cl, M.nA, (by show 7 < 1000; decide), k _ h4 (((f1.trans (Frame.put (j := 0) (by decide))).trans (Frame.put (j := 0) (by decide))).trans (Frame.put (j := 0) (by decide)))⟩
/-! ### output_of -/
theorem bin2_take (l : List Bool) {i : Nat} (h : i < l.length) : bin2 (l.drop (l.length - (i + 1))) = bin2 (l.drop (l.length - i)) * 2 + (if l.getD (l.length - 1 - i) false = true then 1 else 0) := by
  have e : l.length - (i + 1) < l.length := by omega
  rw [List.drop_eq_getElem_cons e, show l.length - (i + 1) + 1 = l.length - i from by omega]
  show bin2 _ * 2 + _ = _
  rw [List.getD_eq_getElem?_getD, List.getElem?_eq_getElem (show l.length - 1 - i < l.length by omega)]
  have e2 : l.length - (i + 1) = l.length - 1 - i := by omega
  simp only [e2, Option.getD_some]
def spOut (CM CT CC : Addr) : Sp := fun vs H Q _ => ∃ (L : Lay) (p : PM) (l : List Bool), vs = [.ref (L.A 0)] ∧ LOk CM CT CC L ∧ Mach L p H ∧ p.q = l.map V.bl ∧ Q (.int (Sf47.bits l : Nat)) H
theorem sc_out : FnScope ["machine", "bits", "bit"] ["machine"] (defScope s_output_of) := ⟨rfl, rfl, rfl, by decide +kernel, rfl, by decide +kernel, by decide +kernel⟩
theorem ok_out {f : Addr} {fd : FuncData} (F : Fun K "output_of" "output_of" s_output_of f fd) (M : MTxt K mg CM fM fdM) (hrv : mg "reversed" = none) : FnOk P w K mg base CX0 1 f fd ["machine"] (spOut CM CT CC) := by
  refine F.ok sc_out (fun vs H Q E h => ?_) (fun cdv A outer s H vs Q E hr h => ?_)
  · obtain ⟨L, p, l, rfl, _⟩ := h
    rfl
  · have hu := hu_of hr
    refine ⟨_, pss_cons (ps_set (i := 1) sc_out.nd rfl (Or.inl rfl) pe_int)
      (pss_cons (ps_for PassesOwn.never rfl (pi_reversed (by rfl) hrv (pa_cons (pe_dget hu (pe_fld (pv 0) (by rfl)) pe_str (fun _ _ => rfl)) pa_nil)) (pg_name (i := 2) sc_out.nd rfl (Or.inl rfl))
        (pss_one (ps_set (i := 1) sc_out.nd rfl (Or.inl rfl) (pe_op op_add (pe_op op_mul (pv 1) pe_int) (pe_ifExp (pt_val (pv 2)) pe_int pe_int)))))
      (pss_one (ps_ret (pv 1)))), ?_⟩
    obtain ⟨L, p, l, rfl, ⟨rfl, rfl, rfl, hI⟩, h, hq, k⟩ := h
    have h5 : H (L.A 5) = some (.lst (l.map V.bl)) := by rw [← hq]; exact h 5 (by decide)
    refine ⟨_, rfl, L.A 0, _, _, _, _, rfl, h 0 (by decide), M.cl, M.nC, get_cells _ _ _ _ _ _ _, _, _, rfl, h.cells (cell_Q L), L.A 5, _, rfl, SqL.of h5, ?_⟩
    refine for_it (walk_rev (xs := l.map V.bl)) (fun i σ H' => H' = H ∧ ∃ v, σ = [some (.ref (L.A 0)), some (.int ((bin2 (l.drop (l.length - i)) : Nat) : Int)), v]) ⟨rfl, none, ?_⟩ ?_ ?_ ?_
    · rw [Nat.sub_zero, List.drop_length]
      rfl
    · rintro i σ H' _ ⟨rfl, _⟩
      exact SqL.of h5
    · rintro i x σ H1 H2 hi ⟨rfl, v, rfl⟩ ⟨rfl, hx⟩
      rw [List.length_map] at hi hx
      rw [List.getElem?_map] at hx
      obtain ⟨b, hb, rfl⟩ := Option.map_eq_some_iff.mp hx
      refine ⟨_, rfl, _, _, rfl, rfl, .inr (by decide), _, rfl, _, rfl, ?_⟩
      have e := bin2_take l hi
      rw [List.getD_eq_getElem?_getD, hb, Option.getD_some] at e
      cases b with
      | true =>
        refine iteT ⟨_, _, rfl, rfl, rfl, some (.bl true), ?_⟩
        rw [e]
        show [_, some (V.int (((bin2 (l.drop (l.length - i)) : Nat) : Int) * 2 + 1)), _] = _
        rw [if_pos rfl]
        simp
      | false =>
        refine iteF ⟨_, _, rfl, rfl, rfl, some (.bl false), ?_⟩
        rw [e]
        show [_, some (V.int (((bin2 (l.drop (l.length - i)) : Nat) : Int) * 2 + 0)), _] = _
        rw [if_neg Bool.false_ne_true]
        simp
    · rintro σ H1 ⟨rfl, v, rfl⟩
      refine ⟨_, rfl, ?_⟩
      rw [List.length_map, Nat.sub_self, List.drop_zero, ← bits_is]
      exact k
/-! ### words_of -/
def spWds (CM CT CC : Addr) : Sp := fun vs H Q _ => ∃ (L : Lay) (p : PM), vs = [.ref (L.A 0)] ∧ LOk CM CT CC L ∧ Mach L p H ∧ ∀ l, H l = none → Q (.ref l) (upd H l (.lst p.w))
theorem sc_wds : FnScope ["machine"] ["machine"] (defScope s_words_of) := ⟨rfl, rfl, rfl, by decide +kernel, rfl, by decide +kernel, by decide +kernel⟩
theorem ok_wds {f : Addr} {fd : FuncData} (F : Fun K "words_of" "words_of" s_words_of f fd) (M : MTxt K mg CM fM fdM) (hls : mg "list" = none) : FnOk P w K mg base CX0 1 f fd ["machine"] (spWds CM CT CC) := by
  refine F.ok sc_wds (fun vs H Q E h => ?_) (fun cdv A outer s H vs Q E hr h => ?_)
  · obtain ⟨L, p, rfl, _⟩ := h
    rfl
  · have hu := hu_of hr
    refine ⟨_, pss_one (ps_ret (pe_callTy call_list_of (by rfl) hls (by decide +kernel) (pa_cons (pe_dget hu (pe_fld (pv 0) (by rfl)) pe_str (fun _ _ => rfl)) pa_nil))), ?_⟩
    obtain ⟨L, p, rfl, ⟨rfl, rfl, rfl, hI⟩, h, k⟩ := h
    exact ⟨_, rfl, L.A 0, _, _, _, _, rfl, h 0 (by decide), M.cl, M.nC, get_cells _ _ _ _ _ _ _, _, _, rfl, h.cells (cell_W L), L.A 3, _, rfl, .inl (SqL.of (h 3 (by decide))), k⟩
end
end Sl
set_option Elab.async false
set_option linter.all false
set_option maxRecDepth 100000
set_option maxHeartbeats 4000000
namespace Sl
open PySem PySem.Spec PyProof.Rows L2 SlM
/-! ### a step in the heap -/
def stF (ln nm act cl ix lim tg : V) : List (Str × V) := [("line", ln), ("name", nm), ("action", act), ("cells", cl), ("index", ix), ("limit", lim), ("target", tg)]
theorem st_line (a b c d e f g : V) : (stF a b c d e f g).lookup ("line" : Str) = some a := by kernel_rfl
theorem st_name (a b c d e f g : V) : (stF a b c d e f g).lookup ("name" : Str) = some b := by kernel_rfl
theorem st_action (a b c d e f g : V) : (stF a b c d e f g).lookup ("action" : Str) = some c := by kernel_rfl
theorem st_cells (a b c d e f g : V) : (stF a b c d e f g).lookup ("cells" : Str) = some d := by kernel_rfl
theorem st_index (a b c d e f g : V) : (stF a b c d e f g).lookup ("index" : Str) = some e := by kernel_rfl
theorem st_limit (a b c d e f g : V) : (stF a b c d e f g).lookup ("limit" : Str) = some f := by kernel_rfl
theorem st_target (a b c d e f g : V) : (stF a b c d e f g).lookup ("target" : Str) = some g := by kernel_rfl
theorem st_new (a b c d e f g : V) : putF "target" g (putF "limit" f (putF "index" e (putF "cells" d (putF "action" c (putF "name" b (putF "line" a [])))))) = stF a b c d e f g := by kernel_rfl
/-- what the text says of Step -/
structure STxt (K : PySem.W.Frag) (mg : Str → Option Value) (CS fI : Addr) (fdI : FuncData) : Prop where
  gC : mg "Step" = some (.ref CS)
  cl : Cls K CS
  nL : NoAttr K CS "line"
  nN : NoAttr K CS "name"
  nA : NoAttr K CS "action"
  nC : NoAttr K CS "cells"
  nI : NoAttr K CS "index"
  nM : NoAttr K CS "limit"
  nT : NoAttr K CS "target"
  mkC : Mk K CS fI
  fi : Fun K "__init__" "Step.__init__" s_step_init fI fdI
def limOf : Sf47.Insn → Int
  | .timer _ _ w => w
  | .ctu _ w => w
  | _ => 0
def tgtOf (p : Sf47.Prog) : Sf47.Insn → Nat
  | .jmp _ l => (p.place l).getD 0
  | _ => p.code.length
/-- at st: the step of the instruction i of line ln -/
def StepIs (CS : Addr) (L : Lay) (p : Sf47.Prog) (H : Hp) (st : Addr) (ln : Nat) (i : Sf47.Insn) (act : V) : Prop :=
  ∃ (ds : Addr) (cl : V) (ix : Int), H st = some (.ins CS ds (stF (.int ln) (.str (S (insKV i).1)) act cl (.int ix) (.int (limOf i)) (.int (tgtOf p i)))) ∧ (∀ x, opdOf i = some x → CellsAt L H x cl ix) ∧ ∀ j, j < 78 → st ≠ L.A j
theorem CellsAt.frame {L : Lay} {H H' : Hp} {x : Sf47.Bit ⊕ Sf47.Word} {cl : V} {ix : Int} (f : Frame L H H') (c : CellsAt L H x cl ix) : CellsAt L H' x cl ix := by
  rcases x with b | (n | n | n | z)
  · cases b <;> exact c
  · exact c
  · exact c
  · exact c
  · obtain ⟨e, q, e1, e2, e3⟩ := c
    exact ⟨e, q, e1, f q _ e2 e3, e3⟩
theorem StepIs.frame {CS : Addr} {L : Lay} {p : Sf47.Prog} {H H' : Hp} {st : Addr} {ln : Nat} {i : Sf47.Insn} {act : V} (f : Frame L H H') (c : StepIs CS L p H st ln i act) : StepIs CS L p H' st ln i act := by
  obtain ⟨ds, cl, ix, e, k, o⟩ := c
  exact ⟨ds, cl, ix, f st _ e o, fun x hx => (k x hx).frame f, o⟩
/-! ### what an action promises -/
def nextAt (p : Sf47.Prog) (n : Nat) : Sf47.Next → Nat
  | .behind => n
  | .at_ q => q
  | .over_ => p.code.length
def AOut (fc : Nat → Addr) (L : Lay) (E : XK) (H : Hp) (n : Nat) : Prop := ∀ (d : Addr) (H' : Hp), Frame L H H' → H d = none → H' d = some (.xd (faF n)) → E (.ref (fc n)) (some d) H'
theorem AOut.out {fc : Nat → Addr} {L : Lay} {E : XK} {H : Hp} {n : Nat} (h : AOut fc L E H n) : FOut fc E H n := fun d H' s nd e => h d H' (Frame.of_same s) nd e
theorem AOut.later {fc : Nat → Addr} {L : Lay} {E : XK} {H H1 : Hp} {n : Nat} (h : AOut fc L E H n) (f : Frame L H H1) (k : ∀ d, H1 d = none → H d = none) : AOut fc L E H1 n := fun d H' f' nd e => h d H' (f.trans f') (k d nd) e
structure Act (CM CT CC CS : Addr) (fc : Nat → Addr) (L : Lay) (p : Sf47.Prog) (s : Sf47.St) (pb : List Addr) (n ln : Nat) (st : Addr) (i : Sf47.Insn) (act : V) (H : Hp) (Q : VK) (E : XK) : Prop where
  ok : LOk CM CT CC L
  m : Mach L (pmOf s pb n) H
  pu : Puts H pb s.put
  st : StepIs CS L p H st ln i act
  oi : okIns i
  g : Good s
  cl : i = .close → s.put ≠ []
  pl : s.put.length ≤ 4096
  bad : ∀ e, s.run p i = .error e → AOut fc L E H e
  good : ∀ s' nx, s.run p i = .ok (s', nx) → ∀ H' pb', Mach L (pmOf s' pb' (nextAt p n nx)) H' → Puts H' pb' s'.put → Frame L H H' → Q .non H'
def spAct (CM CT CC CS : Addr) (fc : Nat → Addr) (R : Sf47.Insn → Prop) : Sp := fun vs H Q E => ∃ (L : Lay) (p : Sf47.Prog) (s : Sf47.St) (pb : List Addr) (n ln : Nat) (st : Addr) (i : Sf47.Insn) (act : V), vs = [.ref (L.A 0), .ref st] ∧ R i ∧ Act CM CT CC CS fc L p s pb n ln st i act H Q E
theorem act_len {CM CT CC CS : Addr} {fc : Nat → Addr} {R : Sf47.Insn → Prop} : ∀ vs H Q E, spAct CM CT CC CS fc R vs H Q E → vs.length = ["machine", "step"].length := fun vs H Q E h => by
  obtain ⟨L, p, s, pb, n, ln, st, i, act, rfl, _⟩ := h
  rfl
theorem asBit_ok {s : Sf47.St} {x : Bool} (h : s.res = some (.inl x)) : s.asBit = .ok x := by
  unfold Sf47.St.asBit
  rw [h]
theorem asBit_no {s : Sf47.St} (h : ∀ b, s.res ≠ some (.inl b)) : s.asBit = .error 1 := by
  unfold Sf47.St.asBit
  split
  · rename_i b e
    exact absurd e (h b)
  · rfl
theorem asWord_ok {s : Sf47.St} {x : Int} (h : s.res = some (.inr x)) : s.asWord = .ok x := by
  unfold Sf47.St.asWord
  rw [h]
theorem asWord_no {s : Sf47.St} (h : ∀ b, s.res ≠ some (.inr b)) : s.asWord = .error 1 := by
  unfold Sf47.St.asWord
  split
  · rename_i b e
    exact absurd e (h b)
  · rfl
section
variable {P : Program} {w : World} {K : PySem.W.Frag} {mg : Str → Option Value} {base : Heap} {CF CM CT CC CS fM fT fC fS : Addr} {fdM fdT fdC fdS : FuncData} {fc : Nat → Addr}
theorem sc_load : FnScope ["machine", "step"] ["machine", "step"] (defScope s_load) := ⟨rfl, rfl, rfl, by decide +kernel, rfl, by decide +kernel, by decide +kernel⟩
theorem ok_load {f : Addr} {fd : FuncData} (F : Fun K "load" "load" s_load f fd) (M : MTxt K mg CM fM fdM) (T : STxt K mg CS fS fdS) : FnOk P w K mg base (L2N.CX P w) 8 f fd ["machine", "step"] (spAct CM CT CC CS fc (fun i => ∃ x, i = .ld x)) := by
  refine okN (k := 7) F sc_load act_len (fun cdv A0 outer s0 H vs Q E hr h => ?_)
  have hr4 : Room 4 _ := hr.mono (by decide)
  refine ⟨_, pss_one (ps_fld (pv 0) (pe_ix ix_list (pe_fld (pv 1) (by rfl)) (pe_fld (pv 1) (by rfl)) (fun _ _ => rfl)) rfl), ?_⟩
  obtain ⟨L, p, s, pb, n, ln, st, i, act, rfl, hR, A⟩ := h
  obtain ⟨x, rfl⟩ := hR
  obtain ⟨rfl, rfl, rfl, hI⟩ := A.ok
  obtain ⟨ds, cl, ix, hst, hcl, hout⟩ := A.st
  obtain ⟨a, xs, rfl, ha, hx⟩ := cell_read A.m (hcl x rfl) (A.oi.1 x rfl) A.g
  refine ⟨_, rfl, st, _, _, _, _, rfl, hst, T.cl, T.nC, st_cells _ _ _ _ _ _ _, _, rfl, st, _, _, _, _, rfl, hst, T.cl, T.nI, st_index _ _ _ _ _ _ _, a, xs, ix, _, rfl, rfl, SqL.of ha, hx, ?_⟩
  refine ⟨_, rfl, L.A 0, _, _, _, rfl, A.m 0 (by decide), M.cl, M.nR, (by show 7 < 1000; decide), ?_⟩
  exact A.good _ _ rfl _ pb (A.m.setRes hI (valV (s.value x))) (A.pu.frame A.m (Frame.put (j := 0) (by decide))) (Frame.put (j := 0) (by decide))
theorem sc_load_other : FnScope ["machine", "step"] ["machine", "step"] (defScope s_load_other) := ⟨rfl, rfl, rfl, by decide +kernel, rfl, by decide +kernel, by decide +kernel⟩
theorem ok_load_other {f : Addr} {fd : FuncData} (F : Fun K "load_other" "load_other" s_load_other f fd) (M : MTxt K mg CM fM fdM) (T : STxt K mg CS fS fdS) : FnOk P w K mg base (L2N.CX P w) 8 f fd ["machine", "step"] (spAct CM CT CC CS fc (fun i => ∃ b, i = .ldn b)) := by
  refine okN (k := 7) F sc_load_other act_len (fun cdv A0 outer s0 H vs Q E hr h => ?_)
  have hr4 : Room 4 _ := hr.mono (by decide)
  refine ⟨_, pss_one (ps_fld (pv 0) (pe_not (pe_ix ix_list (pe_fld (pv 1) (by rfl)) (pe_fld (pv 1) (by rfl)) (fun _ _ => rfl))) rfl), ?_⟩
  obtain ⟨L, p, s, pb, n, ln, st, i, act, rfl, hR, A⟩ := h
  obtain ⟨b, rfl⟩ := hR
  obtain ⟨rfl, rfl, rfl, hI⟩ := A.ok
  obtain ⟨ds, cl, ix, hst, hcl, hout⟩ := A.st
  obtain ⟨a, xs, rfl, ha, hx⟩ := cell_read A.m (hcl (.inl b) rfl) (A.oi.1 (.inl b) rfl) A.g
  refine ⟨_, rfl, st, _, _, _, _, rfl, hst, T.cl, T.nC, st_cells _ _ _ _ _ _ _, _, rfl, st, _, _, _, _, rfl, hst, T.cl, T.nI, st_index _ _ _ _ _ _ _, a, xs, ix, _, rfl, rfl, SqL.of ha, hx, s.bit b, rfl, ?_⟩
  refine ⟨_, rfl, L.A 0, _, _, _, rfl, A.m 0 (by decide), M.cl, M.nR, (by show 7 < 1000; decide), ?_⟩
  exact A.good _ _ rfl _ pb (A.m.setRes hI (.bl (!s.bit b))) (A.pu.frame A.m (Frame.put (j := 0) (by decide))) (Frame.put (j := 0) (by decide))
theorem sc_store_bit : FnScope ["machine", "step"] ["machine", "step"] (defScope s_store_bit) := ⟨rfl, rfl, rfl, by decide +kernel, rfl, by decide +kernel, by decide +kernel⟩
theorem ok_store_bit {f : Addr} {fd : FuncData} (F : Fun K "store_bit" "store_bit" s_store_bit f fd) (M : MTxt K mg CM fM fdM) (T : STxt K mg CS fS fdS) (B : Df P w K mg base (L2N.CX P w) 4 "bit_of" ["value"] (spBit fc)) : FnOk P w K mg base (L2N.CX P w) 8 f fd ["machine", "step"] (spAct CM CT CC CS fc (fun i => ∃ b, i = .st false b)) := by
  obtain ⟨fB, fdB, mB, kB, bB, FB⟩ := B
  refine okN (k := 7) F sc_store_bit act_len (fun cdv A0 outer s0 H vs Q E hr h => ?_)
  have hr4 : Room 4 _ := hr.mono (by decide)
  refine ⟨_, pss_one (ps_asg (pe_callS FB hr4 (by rfl) mB kB bB (fun σ => L2N.passAt (L2N.takes_of rfl rfl rfl rfl) σ) (pa_cons (pe_fld (pv 0) (by rfl)) pa_nil)) (pg_sub (pe_fld (pv 1) (by rfl)) (pe_fld (pv 1) (by rfl)) set_list)), ?_⟩
  obtain ⟨L, p, s, pb, n, ln, st, i, act, rfl, hR, A⟩ := h
  obtain ⟨b, rfl⟩ := hR
  obtain ⟨rfl, rfl, rfl, hI⟩ := A.ok
  obtain ⟨ds, cl, ix, hst, hcl, hout⟩ := A.st
  refine ⟨_, rfl, L.A 0, _, _, _, _, rfl, A.m 0 (by decide), M.cl, M.nR, get_result _ _ _ _ _ _ _, s.res, rfl, fun x ex => ?_, fun nb => (A.bad 1 (by show s.asBit.bind _ = _; rw [asBit_no nb]; rfl)).out⟩
  obtain ⟨a, xs, k, rfl, ha, hk, h1, f1⟩ := cell_bit hI A.m (hcl (.inl b) rfl) A.oi.2 (A.oi.1 (.inl b) rfl) A.g (x)
  refine ⟨_, rfl, st, _, _, _, _, rfl, hst, T.cl, T.nC, st_cells _ _ _ _ _ _ _, _, rfl, st, _, _, _, _, rfl, hst, T.cl, T.nI, st_index _ _ _ _ _ _ _, a, xs, ix, k, rfl, rfl, ha, hk, ?_⟩
  refine A.good (s.setBit b (x != false)) .behind (by show s.asBit.bind _ = _; rw [asBit_ok ex]; rfl) _ pb ?_ ?_ ?_
  · cases x <;> exact h1
  · rw [(setBit_keep s b _).2.2.1]
    exact A.pu.frame A.m f1
  · exact f1
theorem sc_store_other : FnScope ["machine", "step"] ["machine", "step"] (defScope s_store_other) := ⟨rfl, rfl, rfl, by decide +kernel, rfl, by decide +kernel, by decide +kernel⟩
theorem ok_store_other {f : Addr} {fd : FuncData} (F : Fun K "store_other" "store_other" s_store_other f fd) (M : MTxt K mg CM fM fdM) (T : STxt K mg CS fS fdS) (B : Df P w K mg base (L2N.CX P w) 4 "bit_of" ["value"] (spBit fc)) : FnOk P w K mg base (L2N.CX P w) 8 f fd ["machine", "step"] (spAct CM CT CC CS fc (fun i => ∃ b, i = .st true b)) := by
  obtain ⟨fB, fdB, mB, kB, bB, FB⟩ := B
  refine okN (k := 7) F sc_store_other act_len (fun cdv A0 outer s0 H vs Q E hr h => ?_)
  have hr4 : Room 4 _ := hr.mono (by decide)
  refine ⟨_, pss_one (ps_asg (pe_not (pe_callS FB hr4 (by rfl) mB kB bB (fun σ => L2N.passAt (L2N.takes_of rfl rfl rfl rfl) σ) (pa_cons (pe_fld (pv 0) (by rfl)) pa_nil))) (pg_sub (pe_fld (pv 1) (by rfl)) (pe_fld (pv 1) (by rfl)) set_list)), ?_⟩
  obtain ⟨L, p, s, pb, n, ln, st, i, act, rfl, hR, A⟩ := h
  obtain ⟨b, rfl⟩ := hR
  obtain ⟨rfl, rfl, rfl, hI⟩ := A.ok
  obtain ⟨ds, cl, ix, hst, hcl, hout⟩ := A.st
  refine ⟨_, rfl, L.A 0, _, _, _, _, rfl, A.m 0 (by decide), M.cl, M.nR, get_result _ _ _ _ _ _ _, s.res, rfl, fun x ex => ?_, fun nb => (A.bad 1 (by show s.asBit.bind _ = _; rw [asBit_no nb]; rfl)).out⟩
  obtain ⟨a, xs, k, rfl, ha, hk, h1, f1⟩ := cell_bit hI A.m (hcl (.inl b) rfl) A.oi.2 (A.oi.1 (.inl b) rfl) A.g (!x)
  refine ⟨x, rfl, _, rfl, st, _, _, _, _, rfl, hst, T.cl, T.nC, st_cells _ _ _ _ _ _ _, _, rfl, st, _, _, _, _, rfl, hst, T.cl, T.nI, st_index _ _ _ _ _ _ _, a, xs, ix, k, rfl, rfl, ha, hk, ?_⟩
  refine A.good (s.setBit b (x != true)) .behind (by show s.asBit.bind _ = _; rw [asBit_ok ex]; rfl) _ pb ?_ ?_ ?_
  · cases x <;> exact h1
  · rw [(setBit_keep s b _).2.2.1]
    exact A.pu.frame A.m f1
  · exact f1
theorem sc_store_word : FnScope ["machine", "step"] ["machine", "step"] (defScope s_store_word) := ⟨rfl, rfl, rfl, by decide +kernel, rfl, by decide +kernel, by decide +kernel⟩
theorem ok_store_word {f : Addr} {fd : FuncData} (F : Fun K "store_word" "store_word" s_store_word f fd) (M : MTxt K mg CM fM fdM) (T : STxt K mg CS fS fdS) (B : Df P w K mg base (L2N.CX P w) 4 "word_of_results" ["value"] (spWord fc)) : FnOk P w K mg base (L2N.CX P w) 8 f fd ["machine", "step"] (spAct CM CT CC CS fc (fun i => ∃ k, i = .stw k)) := by
  obtain ⟨fB, fdB, mB, kB, bB, FB⟩ := B
  refine okN (k := 7) F sc_store_word act_len (fun cdv A0 outer s0 H vs Q E hr h => ?_)
  have hr4 : Room 4 _ := hr.mono (by decide)
  refine ⟨_, pss_one (ps_asg (pe_callS FB hr4 (by rfl) mB kB bB (fun σ => L2N.passAt (L2N.takes_of rfl rfl rfl rfl) σ) (pa_cons (pe_fld (pv 0) (by rfl)) pa_nil)) (pg_sub (pe_fld (pv 1) (by rfl)) (pe_fld (pv 1) (by rfl)) set_list)), ?_⟩
  obtain ⟨L, p, s, pb, n, ln, st, i, act, rfl, hR, A⟩ := h
  obtain ⟨k, rfl⟩ := hR
  obtain ⟨rfl, rfl, rfl, hI⟩ := A.ok
  obtain ⟨ds, cl, ix, hst, hcl, hout⟩ := A.st
  refine ⟨_, rfl, L.A 0, _, _, _, _, rfl, A.m 0 (by decide), M.cl, M.nR, get_result _ _ _ _ _ _ _, s.res, rfl, fun x ex => ?_, fun nb => (A.bad 1 (by show s.asWord.bind _ = _; rw [asWord_no nb]; rfl)).out⟩
  obtain ⟨a, xs, j, rfl, ha, hk, h1, f1⟩ := cell_word hI A.m (hcl (.inr (.w k)) rfl) (A.oi.1 (.inr (.w k)) rfl) A.g x
  refine ⟨_, rfl, st, _, _, _, _, rfl, hst, T.cl, T.nC, st_cells _ _ _ _ _ _ _, _, rfl, st, _, _, _, _, rfl, hst, T.cl, T.nI, st_index _ _ _ _ _ _ _, a, xs, ix, j, rfl, rfl, ha, hk, ?_⟩
  exact A.good { s with words := Sf47.over s.words k x } .behind (by show s.asWord.bind _ = _; rw [asWord_ok ex]; rfl) _ pb h1 (A.pu.frame A.m f1) f1
theorem sc_set_bit : FnScope ["machine", "step"] ["machine", "step"] (defScope s_set_bit) := ⟨rfl, rfl, rfl, by decide +kernel, rfl, by decide +kernel, by decide +kernel⟩
theorem ok_set_bit {f : Addr} {fd : FuncData} (F : Fun K "set_bit" "set_bit" s_set_bit f fd) (M : MTxt K mg CM fM fdM) (T : STxt K mg CS fS fdS) (B : Df P w K mg base (L2N.CX P w) 4 "bit_of" ["value"] (spBit fc)) : FnOk P w K mg base (L2N.CX P w) 8 f fd ["machine", "step"] (spAct CM CT CC CS fc (fun i => ∃ b, i = .put true b)) := by
  obtain ⟨fB, fdB, mB, kB, bB, FB⟩ := B
  refine okN (k := 7) F sc_set_bit act_len (fun cdv A0 outer s0 H vs Q E hr h => ?_)
  have hr4 : Room 4 _ := hr.mono (by decide)
  refine ⟨_, pss_one (ps_if (pt_val (pe_callS FB hr4 (by rfl) mB kB bB (fun σ => L2N.passAt (L2N.takes_of rfl rfl rfl rfl) σ) (pa_cons (pe_fld (pv 0) (by rfl)) pa_nil))) (pss_one (ps_asg pe_bl (pg_sub (pe_fld (pv 1) (by rfl)) (pe_fld (pv 1) (by rfl)) set_list))) pss_nil), ?_⟩
  obtain ⟨L, p, s, pb, n, ln, st, i, act, rfl, hR, A⟩ := h
  obtain ⟨b, rfl⟩ := hR
  obtain ⟨rfl, rfl, rfl, hI⟩ := A.ok
  obtain ⟨ds, cl, ix, hst, hcl, hout⟩ := A.st
  refine ⟨_, rfl, L.A 0, _, _, _, _, rfl, A.m 0 (by decide), M.cl, M.nR, get_result _ _ _ _ _ _ _, s.res, rfl, fun x ex => ?_, fun nb => (A.bad 1 (by show s.asBit.bind _ = _; rw [asBit_no nb]; rfl)).out⟩
  have run : s.run p (.put true b) = .ok (if x = true then s.setBit b true else s, .behind) := by show s.asBit.bind _ = _; rw [asBit_ok ex]; rfl
  refine ⟨_, rfl, ?_⟩
  cases x with
  | false => exact iteF (A.good s .behind run H pb A.m A.pu (Frame.refl L H))
  | true =>
    refine iteT ?_
    obtain ⟨a, xs, k, rfl, ha, hk, h1, f1⟩ := cell_bit hI A.m (hcl (.inl b) rfl) A.oi.2 (A.oi.1 (.inl b) rfl) A.g true
    refine ⟨_, rfl, st, _, _, _, _, rfl, hst, T.cl, T.nC, st_cells _ _ _ _ _ _ _, _, rfl, st, _, _, _, _, rfl, hst, T.cl, T.nI, st_index _ _ _ _ _ _ _, a, xs, ix, k, rfl, rfl, ha, hk, ?_⟩
    refine A.good (s.setBit b true) .behind run _ pb h1 ?_ f1
    rw [(setBit_keep s b _).2.2.1]
    exact A.pu.frame A.m f1
theorem sc_clear_bit : FnScope ["machine", "step"] ["machine", "step"] (defScope s_clear_bit) := ⟨rfl, rfl, rfl, by decide +kernel, rfl, by decide +kernel, by decide +kernel⟩
theorem ok_clear_bit {f : Addr} {fd : FuncData} (F : Fun K "clear_bit" "clear_bit" s_clear_bit f fd) (M : MTxt K mg CM fM fdM) (T : STxt K mg CS fS fdS) (B : Df P w K mg base (L2N.CX P w) 4 "bit_of" ["value"] (spBit fc)) : FnOk P w K mg base (L2N.CX P w) 8 f fd ["machine", "step"] (spAct CM CT CC CS fc (fun i => ∃ b, i = .put false b)) := by
  obtain ⟨fB, fdB, mB, kB, bB, FB⟩ := B
  refine okN (k := 7) F sc_clear_bit act_len (fun cdv A0 outer s0 H vs Q E hr h => ?_)
  have hr4 : Room 4 _ := hr.mono (by decide)
  refine ⟨_, pss_one (ps_if (pt_val (pe_callS FB hr4 (by rfl) mB kB bB (fun σ => L2N.passAt (L2N.takes_of rfl rfl rfl rfl) σ) (pa_cons (pe_fld (pv 0) (by rfl)) pa_nil))) (pss_one (ps_asg pe_bl (pg_sub (pe_fld (pv 1) (by rfl)) (pe_fld (pv 1) (by rfl)) set_list))) pss_nil), ?_⟩
  obtain ⟨L, p, s, pb, n, ln, st, i, act, rfl, hR, A⟩ := h
  obtain ⟨b, rfl⟩ := hR
  obtain ⟨rfl, rfl, rfl, hI⟩ := A.ok
  obtain ⟨ds, cl, ix, hst, hcl, hout⟩ := A.st
  refine ⟨_, rfl, L.A 0, _, _, _, _, rfl, A.m 0 (by decide), M.cl, M.nR, get_result _ _ _ _ _ _ _, s.res, rfl, fun x ex => ?_, fun nb => (A.bad 1 (by show s.asBit.bind _ = _; rw [asBit_no nb]; rfl)).out⟩
  have run : s.run p (.put false b) = .ok (if x = true then s.setBit b false else s, .behind) := by show s.asBit.bind _ = _; rw [asBit_ok ex]; rfl
  refine ⟨_, rfl, ?_⟩
  cases x with
  | false => exact iteF (A.good s .behind run H pb A.m A.pu (Frame.refl L H))
  | true =>
    refine iteT ?_
    obtain ⟨a, xs, k, rfl, ha, hk, h1, f1⟩ := cell_bit hI A.m (hcl (.inl b) rfl) A.oi.2 (A.oi.1 (.inl b) rfl) A.g false
    refine ⟨_, rfl, st, _, _, _, _, rfl, hst, T.cl, T.nC, st_cells _ _ _ _ _ _ _, _, rfl, st, _, _, _, _, rfl, hst, T.cl, T.nI, st_index _ _ _ _ _ _ _, a, xs, ix, k, rfl, rfl, ha, hk, ?_⟩
    refine A.good (s.setBit b false) .behind run _ pb h1 ?_ f1
    rw [(setBit_keep s b _).2.2.1]
    exact A.pu.frame A.m f1
theorem sc_turn : FnScope ["machine", "step"] ["machine", "step"] (defScope s_turn) := ⟨rfl, rfl, rfl, by decide +kernel, rfl, by decide +kernel, by decide +kernel⟩
theorem ok_turn {f : Addr} {fd : FuncData} (F : Fun K "turn" "turn" s_turn f fd) (M : MTxt K mg CM fM fdM) (T : STxt K mg CS fS fdS) (B : Df P w K mg base (L2N.CX P w) 4 "bit_of" ["value"] (spBit fc)) : FnOk P w K mg base (L2N.CX P w) 8 f fd ["machine", "step"] (spAct CM CT CC CS fc (fun i => i = .not)) := by
  obtain ⟨fB, fdB, mB, kB, bB, FB⟩ := B
  refine okN (k := 7) F sc_turn act_len (fun cdv A0 outer s0 H vs Q E hr h => ?_)
  have hr4 : Room 4 _ := hr.mono (by decide)
  refine ⟨_, pss_one (ps_fld (pv 0) (pe_not (pe_callS FB hr4 (by rfl) mB kB bB (fun σ => L2N.passAt (L2N.takes_of rfl rfl rfl rfl) σ) (pa_cons (pe_fld (pv 0) (by rfl)) pa_nil))) rfl), ?_⟩
  obtain ⟨L, p, s, pb, n, ln, st, i, act, rfl, hR, A⟩ := h
  obtain rfl := hR
  obtain ⟨rfl, rfl, rfl, hI⟩ := A.ok
  obtain ⟨ds, cl, ix, hst, hcl, hout⟩ := A.st
  refine ⟨_, rfl, L.A 0, _, _, _, _, rfl, A.m 0 (by decide), M.cl, M.nR, get_result _ _ _ _ _ _ _, s.res, rfl, fun x ex => ?_, fun nb => (A.bad 1 (by show s.asBit.bind _ = _; rw [asBit_no nb]; rfl)).out⟩
  refine ⟨x, rfl, _, rfl, L.A 0, _, _, _, rfl, A.m 0 (by decide), M.cl, M.nR, (by show 7 < 1000; decide), ?_⟩
  exact A.good { s with res := some (.inl (!x)) } .behind (by show s.asBit.bind _ = _; rw [asBit_ok ex]; rfl) _ pb (A.m.setRes hI (.bl (!x))) (A.pu.frame A.m (Frame.put (j := 0) (by decide))) (Frame.put (j := 0) (by decide))
end
end Sl
set_option Elab.async false
set_option linter.all false
set_option maxRecDepth 100000
set_option maxHeartbeats 4000000
namespace Sl
open PySem PySem.Spec PyProof.Rows L2 SlM
theorem getD_over {α : Type} (l : List α) (n k : Nat) (x d : α) (h : n < l.length) : (Sf47.over l n x).getD k d = upN (fun k => l.getD k d) n x k := by
  rw [over_set]
  unfold upN
  rw [List.getD_eq_getElem?_getD, List.getElem?_set]
  by_cases e : k = n
  · subst e
    rw [if_pos rfl, if_pos rfl, if_pos h]
    rfl
  · rw [if_neg (Ne.symm e), if_neg e]
    exact (List.getD_eq_getElem?_getD ..).symm
section
variable {P : Program} {w : World} {K : PySem.W.Frag} {mg : Str → Option Value} {base : Heap} {CF CM CT CC CS fM fT fC fS : Addr} {fdM fdT fdC fdS : FuncData} {fc : Nat → Addr}
theorem sc_operate : FnScope ["machine", "step"] ["machine", "step"] (defScope s_operate) := ⟨rfl, rfl, rfl, by decide +kernel, rfl, by decide +kernel, by decide +kernel⟩
theorem ok_operate {f : Addr} {fd : FuncData} (F : Fun K "operate" "operate" s_operate f fd) (M : MTxt K mg CM fM fdM) (T : STxt K mg CS fS fdS) (W : Df P w K mg base (L2N.CX P w) 6 "work_out" ["name", "left", "right"] (spWork fc)) : FnOk P w K mg base (L2N.CX P w) 8 f fd ["machine", "step"] (spAct CM CT CC CS fc (fun i => ∃ o x, i = .bin o x)) := by
  obtain ⟨fW, fdW, mW, kW, bW, FW⟩ := W
  refine okN (k := 7) F sc_operate act_len (fun cdv A0 outer s0 H vs Q E hr h => ?_)
  have hr4 : Room 4 _ := hr.mono (by decide)
  refine ⟨_, pss_one (ps_fld (pv 0) (pe_callS FW (hr.mono (by decide)) (by rfl) mW kW bW (fun σ => L2N.passAt (L2N.takes_of rfl rfl rfl rfl) σ) (pa_cons (pe_fld (pv 1) (by rfl)) (pa_cons (pe_fld (pv 0) (by rfl)) (pa_cons (pe_ix ix_list (pe_fld (pv 1) (by rfl)) (pe_fld (pv 1) (by rfl)) (fun _ _ => rfl)) pa_nil)))) rfl), ?_⟩
  obtain ⟨L, p, s, pb, n, ln, st, i, act, rfl, hR, A⟩ := h
  obtain ⟨o, x, rfl⟩ := hR
  obtain ⟨rfl, rfl, rfl, hI⟩ := A.ok
  obtain ⟨ds, cl, ix, hst, hcl, hout⟩ := A.st
  obtain ⟨a, xs, rfl, ha, hx⟩ := cell_read A.m (hcl x rfl) (A.oi.1 x rfl) A.g
  have run : s.run p (.bin o x) = (wk o s.res (some (s.value x))).bind fun v => .ok ({ s with res := some v }, .behind) := by
    show (match s.res with | none => Except.error 1 | some a => (o.run a (s.value x)).bind fun v => Except.ok (({ s with res := some v } : Sf47.St), Sf47.Next.behind)) = _
    unfold wk
    cases s.res <;> rfl
  refine ⟨_, rfl, st, _, _, _, _, rfl, hst, T.cl, T.nN, st_name _ _ _ _ _ _ _, _, rfl, L.A 0, _, _, _, _, rfl, A.m 0 (by decide), M.cl, M.nR, get_result _ _ _ _ _ _ _, _, rfl, st, _, _, _, _, rfl, hst, T.cl, T.nC, st_cells _ _ _ _ _ _ _, _, rfl, st, _, _, _, _, rfl, hst, T.cl, T.nI, st_index _ _ _ _ _ _ _, a, xs, ix, _, rfl, rfl, SqL.of ha, hx, ?_⟩
  refine ⟨o, s.res, some (s.value x), rfl, A.g.rf, fun v e => by cases e; exact value_fits A.g (A.oi.1 x rfl), fun e he => (A.bad e (by rw [run, he]; rfl)).out, fun v hv => ?_⟩
  refine ⟨_, rfl, L.A 0, _, _, _, rfl, A.m 0 (by decide), M.cl, M.nR, (by show 7 < 1000; decide), ?_⟩
  exact A.good { s with res := some v } .behind (by rw [run, hv]; rfl) _ pb (A.m.setRes hI (valV v)) (A.pu.frame A.m (Frame.put (j := 0) (by decide))) (Frame.put (j := 0) (by decide))
theorem sc_put_off : FnScope ["machine", "step"] ["machine", "step"] (defScope s_put_off) := ⟨rfl, rfl, rfl, by decide +kernel, rfl, by decide +kernel, by decide +kernel⟩
theorem ok_put_off {f : Addr} {fd : FuncData} (F : Fun K "put_off" "put_off" s_put_off f fd) (M : MTxt K mg CM fM fdM) (T : STxt K mg CS fS fdS) (FT : Faults K mg CF fc) : FnOk P w K mg base (L2N.CX P w) 8 f fd ["machine", "step"] (spAct CM CT CC CS fc (fun i => ∃ o x, i = .open_ o x)) := by
  refine okN (k := 7) F sc_put_off act_len (fun cdv A0 outer s0 H vs Q E hr h => ?_)
  have hr4 : Room 4 _ := hr.mono (by decide)
  refine ⟨_, pss_cons (ps_if (pt_cmpR op_isN (pe_fld (pv 0) (by rfl)) pe_non (nomark _)) (pss_one (L2N.ps_raise rfl (L2N.takes_of rfl rfl rfl rfl) (mk_1 FT (hr.mono (by decide))))) pss_nil)
    (pss_cons (ps_expr (pe_bm PySem.F.plainAttrs_list PySem.F.slot_list_append PySem.F.type_list_append mt_append (pe_fld (pv 0) (by rfl)) (pa_cons (pe_tup (pa_cons (pe_fld (pv 1) (by rfl)) (pa_cons (pe_fld (pv 0) (by rfl)) pa_nil))) pa_nil)))
    (pss_one (ps_fld (pv 0) (pe_ix ix_list (pe_fld (pv 1) (by rfl)) (pe_fld (pv 1) (by rfl)) (fun _ _ => rfl)) rfl))), ?_⟩
  obtain ⟨L, p, s, pb, n, ln, st, i, act, rfl, hR, A⟩ := h
  obtain ⟨o, x, rfl⟩ := hR
  obtain ⟨rfl, rfl, rfl, hI⟩ := A.ok
  obtain ⟨ds, cl, ix, hst, hcl, hout⟩ := A.st
  refine ⟨_, rfl, L.A 0, _, _, _, _, rfl, A.m 0 (by decide), M.cl, M.nR, get_result _ _ _ _ _ _ _, rfl, _, rfl, ?_⟩
  cases er : s.res with
  | none => exact if_t (decide_eq_true (by show resV s.res = _; rw [er]; rfl)) fun d nd => (A.bad 1 (by show (match s.res with | none => Except.error 1 | some a => Except.ok (({ s with res := some (s.value x), put := (o, a) :: s.put } : Sf47.St), Sf47.Next.behind)) = _; rw [er])).out.now nd
  | some rv =>
    have run : s.run p (.open_ o x) = .ok ({ s with res := some (s.value x), put := (o, rv) :: s.put }, .behind) := by
      show (match s.res with | none => Except.error 1 | some a => Except.ok (({ s with res := some (s.value x), put := (o, a) :: s.put } : Sf47.St), Sf47.Next.behind)) = _
      rw [er]
    refine if_f (decide_eq_false (by show ¬ resV s.res = _; rw [er]; cases rv <;> (intro z; cases z))) ?_
    refine ⟨_, rfl, L.A 0, _, _, _, _, rfl, A.m 0 (by decide), M.cl, M.nP, get_putby _ _ _ _ _ _ _, .inl ⟨rfl, _, SqL.of (A.m 13 (by decide))⟩, ?_⟩
    refine ⟨_, rfl, st, _, _, _, _, rfl, hst, T.cl, T.nN, st_name _ _ _ _ _ _ _, _, rfl, L.A 0, _, _, _, _, rfl, A.m 0 (by decide), M.cl, M.nR, get_result _ _ _ _ _ _ _, (by show 2 ≤ sizeLine; decide), fun t nt => ?_⟩
    have m1 := A.m.new (o := .tup [.str (S (insKV (.open_ o x)).1), resV s.res]) nt
    have f1 : Frame L H _ := Frame.new A.m (o := .tup [.str (S (insKV (.open_ o x)).1), resV s.res]) nt
    refine ⟨L.A 13, _, _, rfl, rfl, m1 13 (by decide), ?_, ?_⟩
    · show (pb.map V.ref).length < sizeLine
      rw [List.length_map, A.pu.len]
      exact Nat.lt_of_le_of_lt A.pl (by decide)
    have m2 := m1.setP hI (l := pb ++ [t]) (xs := pb.map V.ref ++ [.ref t]) (by rw [List.map_append]; rfl)
    have f2 : Frame L _ (upd (upd H t (.tup [.str (S (insKV (.open_ o x)).1), resV s.res])) (L.A 13) (.lst (pb.map V.ref ++ [.ref t]))) := Frame.put (j := 13) (by decide)
    have hst2 := f2 _ _ (f1 _ _ hst hout) hout
    have g2 : Good { s with put := (o, rv) :: s.put } := ⟨A.g.q, A.g.m, A.g.w, A.g.t, A.g.c, A.g.wf, A.g.tf, A.g.cf, A.g.rf, fun y hy => by
      rcases List.mem_cons.mp hy with q | q
      · rw [q]; exact A.g.rf rv er
      · exact A.g.pf y q⟩
    have m2' : Mach L (pmOf { s with put := (o, rv) :: s.put } (pb ++ [t]) n) _ := m2
    obtain ⟨a, xs, rfl, ha, hx⟩ := cell_read m2' (((hcl x rfl).frame f1).frame f2) (A.oi.1 x rfl) g2
    refine ⟨_, rfl, st, _, _, _, _, rfl, hst2, T.cl, T.nC, st_cells _ _ _ _ _ _ _, _, rfl, st, _, _, _, _, rfl, hst2, T.cl, T.nI, st_index _ _ _ _ _ _ _, a, xs, ix, _, rfl, rfl, SqL.of ha, hx, ?_⟩
    refine ⟨_, rfl, L.A 0, _, _, _, rfl, m2 0 (by decide), M.cl, M.nR, (by show 7 < 1000; decide), ?_⟩
    have pt : PutAt (upd (upd H t (.tup [.str (S (insKV (.open_ o x)).1), resV s.res])) (L.A 13) (.lst (pb.map V.ref ++ [.ref t]))) t (o, rv) := by
      unfold PutAt
      rw [upd_ne (A.m.out nt 13 (by decide)), upd_same, er]
      rfl
    exact A.good _ _ run _ (pb ++ [t]) (m2.setRes hI (valV (s.value x))) ((((A.pu.frame A.m f1).frame m1 f2).push pt).frame m2 (Frame.put (j := 0) (by decide))) ((f1.trans f2).trans (Frame.put (j := 0) (by decide)))
theorem sc_close : FnScope ["machine", "step", "held"] ["machine", "step"] (defScope s_close) := ⟨rfl, rfl, rfl, by decide +kernel, rfl, by decide +kernel, by decide +kernel⟩
theorem ok_close {f : Addr} {fd : FuncData} (F : Fun K "close" "close" s_close f fd) (M : MTxt K mg CM fM fdM) (T : STxt K mg CS fS fdS) (W : Df P w K mg base (L2N.CX P w) 6 "work_out" ["name", "left", "right"] (spWork fc)) : FnOk P w K mg base (L2N.CX P w) 8 f fd ["machine", "step"] (spAct CM CT CC CS fc (fun i => i = .close)) := by
  obtain ⟨fW, fdW, mW, kW, bW, FW⟩ := W
  refine okN (k := 7) F sc_close act_len (fun cdv A0 outer s0 H vs Q E hr h => ?_)
  have hr4 : Room 4 _ := hr.mono (by decide)
  refine ⟨_, pss_cons (ps_set (i := 2) sc_close.nd rfl (Or.inl rfl) (pe_bm0 PySem.F.plainAttrs_list PySem.F.slot_list_pop PySem.F.type_list_pop mt_pop (pe_fld (pv 0) (by rfl))))
    (pss_one (ps_fld (pv 0) (pe_callS FW (hr.mono (by decide)) (by rfl) mW kW bW (fun σ => L2N.passAt (L2N.takes_of rfl rfl rfl rfl) σ) (pa_cons (pe_ix ix_tup (pv 2) pe_int (fun _ _ => rfl)) (pa_cons (pe_ix ix_tup (pv 2) pe_int (fun _ _ => rfl)) (pa_cons (pe_fld (pv 0) (by rfl)) pa_nil)))) rfl)), ?_⟩
  obtain ⟨L, p, s, pb, n, ln, st, i, act, rfl, hR, A⟩ := h
  obtain rfl := hR
  obtain ⟨rfl, rfl, rfl, hI⟩ := A.ok
  obtain ⟨ds, cl, ix, hst, hcl, hout⟩ := A.st
  have run : ∀ o rv r, s.put = (o, rv) :: r → s.run p .close = (wk o (some rv) s.res).bind fun v => .ok ({ s with res := some v, put := r }, .behind) := fun o rv r e => by
    show (match s.put, s.res with | (o, a) :: r, some b => (o.run a b).bind fun v => Except.ok (({ s with res := some v, put := r } : Sf47.St), Sf47.Next.behind) | _, _ => Except.error 1) = _
    rw [e]
    unfold wk
    cases s.res <;> rfl
  cases ep : s.put with
  | nil => exact absurd ep (A.cl rfl)
  | cons x r =>
    obtain ⟨o, rv⟩ := x
    have pu := A.pu
    rw [ep] at pu
    obtain ⟨t, pb', rfl, pt, pu'⟩ := pu.pop
    refine ⟨_, rfl, L.A 0, _, _, _, _, rfl, A.m 0 (by decide), M.cl, M.nP, get_putby _ _ _ _ _ _ _, .inl ⟨rfl, _, SqL.of (A.m 13 (by decide))⟩, ?_⟩
    refine ⟨L.A 13, _, .ref t, rfl, rfl, A.m 13 (by decide), ?_, ?_⟩
    · show ((pb' ++ [t]).map V.ref)[((pb' ++ [t]).map V.ref).length - 1]? = some (V.ref t)
      rw [List.map_append, List.length_append, List.length_map]
      show (pb'.map V.ref ++ [V.ref t])[pb'.length + 1 - 1]? = _
      rw [Nat.add_sub_cancel, List.getElem?_append_right (by rw [List.length_map]; exact Nat.le_refl _), List.length_map, Nat.sub_self]
      rfl
    have m1 := A.m.setP hI (l := pb') (xs := ((pb' ++ [t]).map V.ref).dropLast) (by rw [List.map_append]; exact List.dropLast_concat)
    have f1 : Frame L H (upd H (L.A 13) (.lst ((pb' ++ [t]).map V.ref).dropLast)) := Frame.put (j := 13) (by decide)
    have nn : ∀ d, upd H (L.A 13) (.lst ((pb' ++ [t]).map V.ref).dropLast) d = none → H d = none := fun d nd => by
      rw [upd_ne (fun z => by rw [z, upd_same] at nd; cases nd)] at nd
      exact nd
    have pt1 : upd H (L.A 13) (.lst ((pb' ++ [t]).map V.ref).dropLast) t = some (.tup [.str (S (binName o)), valV rv]) := f1 t _ pt (A.m.noTup pt)
    refine ⟨_, rfl, t, _, _, _, rfl, rfl, SqT.of pt1, atI_nat (j := 0) rfl, _, rfl, t, _, _, _, rfl, rfl, SqT.of pt1, atI_nat (j := 1) rfl, _, rfl, L.A 0, _, _, _, _, rfl, m1 0 (by decide), M.cl, M.nR, get_result _ _ _ _ _ _ _, ?_⟩
    refine ⟨o, some rv, s.res, rfl, fun v e => by cases e; exact A.g.pf (o, rv) (by rw [ep]; exact List.mem_cons_self), A.g.rf, fun e he => ((A.bad e (by rw [run o rv r ep, he]; rfl)).later f1 nn).out, fun v hv => ?_⟩
    refine ⟨_, rfl, L.A 0, _, _, _, rfl, m1 0 (by decide), M.cl, M.nR, (by show 7 < 1000; decide), ?_⟩
    exact A.good { s with res := some v, put := r } .behind (by rw [run o rv r ep, hv]; rfl) _ pb' (m1.setRes hI (valV v)) ((pu'.frame A.m f1).frame m1 (Frame.put (j := 0) (by decide))) (f1.trans (Frame.put (j := 0) (by decide)))
theorem sc_go_on : FnScope ["machine", "step"] ["machine", "step"] (defScope s_go_on) := ⟨rfl, rfl, rfl, by decide +kernel, rfl, by decide +kernel, by decide +kernel⟩
theorem ok_go_on {f : Addr} {fd : FuncData} (F : Fun K "go_on" "go_on" s_go_on f fd) (M : MTxt K mg CM fM fdM) (T : STxt K mg CS fS fdS) : FnOk P w K mg base (L2N.CX P w) 8 f fd ["machine", "step"] (spAct CM CT CC CS fc (fun i => (∃ l, i = .jmp .always l) ∨ i = .ret false)) := by
  refine okN (k := 7) F sc_go_on act_len (fun cdv A0 outer s0 H vs Q E hr h => ?_)
  have hr4 : Room 4 _ := hr.mono (by decide)
  refine ⟨_, pss_one (ps_fld (pv 0) (pe_fld (pv 1) (by rfl)) rfl), ?_⟩
  obtain ⟨L, p, s, pb, n, ln, st, i, act, rfl, hR, A⟩ := h
  obtain ⟨rfl, rfl, rfl, hI⟩ := A.ok
  obtain ⟨ds, cl, ix, hst, hcl, hout⟩ := A.st
  refine ⟨_, rfl, st, _, _, _, _, rfl, hst, T.cl, T.nT, st_target _ _ _ _ _ _ _, _, rfl, L.A 0, _, _, _, rfl, A.m 0 (by decide), M.cl, M.nA, (by show 7 < 1000; decide), ?_⟩
  rcases hR with ⟨l, rfl⟩ | rfl
  · exact A.good s (.at_ ((p.place l).getD 0)) rfl _ pb (A.m.setAt hI _) (A.pu.frame A.m (Frame.put (j := 0) (by decide))) (Frame.put (j := 0) (by decide))
  · exact A.good s .over_ rfl _ pb (A.m.setAt hI _) (A.pu.frame A.m (Frame.put (j := 0) (by decide))) (Frame.put (j := 0) (by decide))
theorem sc_go_on_if : FnScope ["machine", "step"] ["machine", "step"] (defScope s_go_on_if) := ⟨rfl, rfl, rfl, by decide +kernel, rfl, by decide +kernel, by decide +kernel⟩
theorem ok_go_on_if {f : Addr} {fd : FuncData} (F : Fun K "go_on_if" "go_on_if" s_go_on_if f fd) (M : MTxt K mg CM fM fdM) (T : STxt K mg CS fS fdS) (B : Df P w K mg base (L2N.CX P w) 4 "bit_of" ["value"] (spBit fc)) : FnOk P w K mg base (L2N.CX P w) 8 f fd ["machine", "step"] (spAct CM CT CC CS fc (fun i => (∃ l, i = .jmp .one l) ∨ i = .ret true)) := by
  obtain ⟨fB, fdB, mB, kB, bB, FB⟩ := B
  refine okN (k := 7) F sc_go_on_if act_len (fun cdv A0 outer s0 H vs Q E hr h => ?_)
  have hr4 : Room 4 _ := hr.mono (by decide)
  refine ⟨_, pss_one (ps_if (pt_val (pe_callS FB hr4 (by rfl) mB kB bB (fun σ => L2N.passAt (L2N.takes_of rfl rfl rfl rfl) σ) (pa_cons (pe_fld (pv 0) (by rfl)) pa_nil))) (pss_one (ps_fld (pv 0) (pe_fld (pv 1) (by rfl)) rfl)) pss_nil), ?_⟩
  obtain ⟨L, p, s, pb, n, ln, st, i, act, rfl, hR, A⟩ := h
  obtain ⟨rfl, rfl, rfl, hI⟩ := A.ok
  obtain ⟨ds, cl, ix, hst, hcl, hout⟩ := A.st
  have no : (∀ b, s.res ≠ some (.inl b)) → s.run p i = .error 1 := fun nb => by
    rcases hR with ⟨l, rfl⟩ | rfl
    · show s.asBit.map _ = _
      rw [asBit_no nb]
      rfl
    · show s.asBit.map _ = _
      rw [asBit_no nb]
      rfl
  refine ⟨_, rfl, L.A 0, _, _, _, _, rfl, A.m 0 (by decide), M.cl, M.nR, get_result _ _ _ _ _ _ _, s.res, rfl, fun x ex => ?_, fun nb => (A.bad 1 (no nb)).out⟩
  refine ⟨_, rfl, ?_⟩
  cases x with
  | false =>
    refine iteF (A.good s .behind ?_ H pb A.m A.pu (Frame.refl L H))
    rcases hR with ⟨l, rfl⟩ | rfl
    · show s.asBit.map _ = _
      rw [asBit_ok ex]
      rfl
    · show s.asBit.map _ = _
      rw [asBit_ok ex]
      rfl
  | true =>
    refine iteT ⟨_, rfl, st, _, _, _, _, rfl, hst, T.cl, T.nT, st_target _ _ _ _ _ _ _, _, rfl, L.A 0, _, _, _, rfl, A.m 0 (by decide), M.cl, M.nA, (by show 7 < 1000; decide), ?_⟩
    rcases hR with ⟨l, rfl⟩ | rfl
    · exact A.good s (.at_ ((p.place l).getD 0)) (by show s.asBit.map _ = _; rw [asBit_ok ex]; rfl) _ pb (A.m.setAt hI _) (A.pu.frame A.m (Frame.put (j := 0) (by decide))) (Frame.put (j := 0) (by decide))
    · exact A.good s .over_ (by show s.asBit.map _ = _; rw [asBit_ok ex]; rfl) _ pb (A.m.setAt hI _) (A.pu.frame A.m (Frame.put (j := 0) (by decide))) (Frame.put (j := 0) (by decide))
theorem sc_go_on_unless : FnScope ["machine", "step"] ["machine", "step"] (defScope s_go_on_unless) := ⟨rfl, rfl, rfl, by decide +kernel, rfl, by decide +kernel, by decide +kernel⟩
theorem ok_go_on_unless {f : Addr} {fd : FuncData} (F : Fun K "go_on_unless" "go_on_unless" s_go_on_unless f fd) (M : MTxt K mg CM fM fdM) (T : STxt K mg CS fS fdS) (B : Df P w K mg base (L2N.CX P w) 4 "bit_of" ["value"] (spBit fc)) : FnOk P w K mg base (L2N.CX P w) 8 f fd ["machine", "step"] (spAct CM CT CC CS fc (fun i => ∃ l, i = .jmp .zero l)) := by
  obtain ⟨fB, fdB, mB, kB, bB, FB⟩ := B
  refine okN (k := 7) F sc_go_on_unless act_len (fun cdv A0 outer s0 H vs Q E hr h => ?_)
  have hr4 : Room 4 _ := hr.mono (by decide)
  refine ⟨_, pss_one (ps_if (pt_not (pt_val (pe_callS FB hr4 (by rfl) mB kB bB (fun σ => L2N.passAt (L2N.takes_of rfl rfl rfl rfl) σ) (pa_cons (pe_fld (pv 0) (by rfl)) pa_nil)))) (pss_one (ps_fld (pv 0) (pe_fld (pv 1) (by rfl)) rfl)) pss_nil), ?_⟩
  obtain ⟨L, p, s, pb, n, ln, st, i, act, rfl, hR, A⟩ := h
  obtain ⟨l, rfl⟩ := hR
  obtain ⟨rfl, rfl, rfl, hI⟩ := A.ok
  obtain ⟨ds, cl, ix, hst, hcl, hout⟩ := A.st
  refine ⟨_, rfl, L.A 0, _, _, _, _, rfl, A.m 0 (by decide), M.cl, M.nR, get_result _ _ _ _ _ _ _, s.res, rfl, fun x ex => ?_, fun nb => (A.bad 1 (by show s.asBit.map _ = _; rw [asBit_no nb]; rfl)).out⟩
  refine ⟨_, rfl, ?_⟩
  cases x with
  | true => exact iteF (A.good s .behind (by show s.asBit.map _ = _; rw [asBit_ok ex]; rfl) H pb A.m A.pu (Frame.refl L H))
  | false =>
    refine iteT ⟨_, rfl, st, _, _, _, _, rfl, hst, T.cl, T.nT, st_target _ _ _ _ _ _ _, _, rfl, L.A 0, _, _, _, rfl, A.m 0 (by decide), M.cl, M.nA, (by show 7 < 1000; decide), ?_⟩
    exact A.good s (.at_ ((p.place l).getD 0)) (by show s.asBit.map _ = _; rw [asBit_ok ex]; rfl) _ pb (A.m.setAt hI _) (A.pu.frame A.m (Frame.put (j := 0) (by decide))) (Frame.put (j := 0) (by decide))
theorem sc_run_timer : FnScope ["machine", "step", "timer"] ["machine", "step"] (defScope s_run_timer) := ⟨rfl, rfl, rfl, by decide +kernel, rfl, by decide +kernel, by decide +kernel⟩
theorem ok_run_timer {f : Addr} {fd : FuncData} (F : Fun K "run_timer" "run_timer" s_run_timer f fd) (M : MTxt K mg CM fM fdM) (T : STxt K mg CS fS fdS) (B : Df P w K mg base (L2N.CX P w) 4 "bit_of" ["value"] (spBit fc)) (TT : TimTxt K mg CT fT fdT) (U : Df P w K mg base CX0 2 "use_timer" ["timer", "name", "on", "limit", "now"] (spUse CT)) (W : Df P w K mg base CX0 1 "show_timer" ["machine", "number"] (spShT CM CT CC)) : FnOk P w K mg base (L2N.CX P w) 8 f fd ["machine", "step"] (spAct CM CT CC CS fc (fun i => ∃ k t v, i = .timer k t v)) := by
  obtain ⟨fB, fdB, mB, kB, bB, FB⟩ := B
  obtain ⟨fW, fdW, mW, kW, bW, FW⟩ := W
  obtain ⟨fU, fdU, mU, kU, bU, FU⟩ := U
  refine okN (k := 7) F sc_run_timer act_len (fun cdv A0 outer s0 H vs Q E hr h => ?_)
  have hr4 : Room 4 _ := hr.mono (by decide)
  refine ⟨_, pss_cons (ps_set (i := 2) sc_run_timer.nd rfl (Or.inl rfl) (pe_ix ix_list (pe_fld (pv 0) (by rfl)) (pe_fld (pv 1) (by rfl)) (fun _ _ => rfl)))
    (pss_cons (ps_expr (pe_call FU (hr.mono (by decide)) (by rfl) mU kU bU .nil pass0 (pa_cons (pv 2) (pa_cons (pe_fld (pv 1) (by rfl)) (pa_cons (pe_callS FB hr4 (by rfl) mB kB bB (fun σ => L2N.passAt (L2N.takes_of rfl rfl rfl rfl) σ) (pa_cons (pe_fld (pv 0) (by rfl)) pa_nil)) (pa_cons (pe_fld (pv 1) (by rfl)) (pa_cons (pe_fld (pv 0) (by rfl)) pa_nil)))))))
    (pss_cons (ps_expr (pe_call FW (hr.mono (by decide)) (by rfl) mW kW bW .nil pass0 (pa_cons (pv 0) (pa_cons (pe_fld (pv 1) (by rfl)) pa_nil))))
    (pss_one (ps_fld (pv 0) (pe_fld (pv 2) (by rfl)) rfl)))), ?_⟩
  obtain ⟨L, p, s, pb, n, ln, st, i, act, rfl, hR, A⟩ := h
  obtain ⟨k, t, v, rfl⟩ := hR
  obtain ⟨rfl, rfl, rfl, hI⟩ := A.ok
  obtain ⟨ds, cl, ix, hst, hcl, hout⟩ := A.st
  have ht : t < 32 := A.oi.1 _ rfl
  obtain ⟨ecl, eix⟩ := hcl _ rfl
  have eix : ix = (t : Int) := eix
  subst eix
  refine ⟨_, rfl, L.A 0, _, _, _, _, rfl, A.m 0 (by decide), M.cl, M.nT, get_timers _ _ _ _ _ _ _, _, rfl, st, _, _, _, _, rfl, hst, T.cl, T.nI, st_index _ _ _ _ _ _ _, _, _, _, _, rfl, rfl, SqL.of (A.m 11 (by decide)), tims_at L ht, ?_⟩
  refine ⟨_, rfl, _, rfl, st, _, _, _, _, rfl, hst, T.cl, T.nN, st_name _ _ _ _ _ _ _, _, rfl, L.A 0, _, _, _, _, rfl, A.m 0 (by decide), M.cl, M.nR, get_result _ _ _ _ _ _ _, s.res, rfl, fun x ex => ?_, fun nb => (A.bad 1 (by show s.asBit.bind _ = _; rw [asBit_no nb]; rfl)).out⟩
  refine ⟨_, rfl, st, _, _, _, _, rfl, hst, T.cl, T.nM, st_limit _ _ _ _ _ _ _, _, rfl, L.A 0, _, _, _, _, rfl, A.m 0 (by decide), M.cl, M.nN, get_now _ _ _ _ _ _ _, ?_⟩
  have tm := A.m.tim ht
  have hs : (s.timers.getD t Sf47.noTim).since ≤ s.now := (A.g.tf _ (getD_mem (by rw [A.g.t]; exact ht))).since
  refine ⟨_, _, s.timers.getD t Sf47.noTim, k, x, v, s.now, ?_, tm, hs, fun H1 o => ?_⟩
  · cases k <;> rfl
  have m1 := A.m.setTim hI ht o.at_ o.oth
  have f1 : Frame L H H1 := Frame.at (j := t + 14) (by omega) o.oth
  have hst1 := f1 _ _ hst hout
  refine ⟨_, rfl, _, rfl, st, _, _, _, _, rfl, hst1, T.cl, T.nI, st_index _ _ _ _ _ _ _, ?_⟩
  refine ⟨L, _, t, rfl, ⟨rfl, rfl, rfl, hI⟩, m1, ht, ?_, ?_, fun H2 m2 f2 => ?_⟩
  · show (s.timers.map fun t => V.int t.time).length = 32
    rw [List.length_map, A.g.t]
  · show (s.timers.map fun t => V.bl t.on).length = 32
    rw [List.length_map, A.g.t]
  have tm2 := m2.tim ht
  refine ⟨_, rfl, _, _, _, _, _, rfl, tm2, TT.cl, TT.nB, tim_gbit _, ?_⟩
  refine ⟨_, rfl, L.A 0, _, _, _, rfl, m2 0 (by decide), M.cl, M.nR, (by show 7 < 1000; decide), ?_⟩
  generalize hu : (s.timers.getD t Sf47.noTim).use k x v s.now = u at m1 m2
  have run : s.run p (.timer k t v) = .ok ({ s with timers := Sf47.over s.timers t u, res := some (.inl u.on) }, .behind) := by
    show s.asBit.bind _ = _
    rw [asBit_ok ex]
    show Except.ok _ = _
    rw [← hu]
  have eu : upN (fun k => s.timers.getD k Sf47.noTim) t u t = u := if_pos rfl
  have m3 := m2.setRes hI (.bl u.on)
  have e1 : ((pmOf s pb n).e.set t (.int (upN (pmOf s pb n).tim t u t).time)) = (Sf47.over s.timers t u).map fun t => V.int t.time := by
    rw [map_over]
    show (s.timers.map fun t => V.int t.time).set t (.int (upN (fun k => s.timers.getD k Sf47.noTim) t u t).time) = _
    rw [eu]
  have e2 : ((pmOf s pb n).t.set t (.bl (upN (pmOf s pb n).tim t u t).on)) = (Sf47.over s.timers t u).map fun t => V.bl t.on := by
    rw [map_over]
    show (s.timers.map fun t => V.bl t.on).set t (.bl (upN (fun k => s.timers.getD k Sf47.noTim) t u t).on) = _
    rw [eu]
  have e3 : (fun k => (Sf47.over s.timers t u).getD k Sf47.noTim) = upN (pmOf s pb n).tim t u := funext fun k => getD_over s.timers t k u Sf47.noTim (by rw [A.g.t]; exact ht)
  refine A.good _ _ run _ pb ?_ (((A.pu.frame A.m f1).frame m1 f2).frame m2 (Frame.put (j := 0) (by decide))) ((f1.trans f2).trans (Frame.put (j := 0) (by decide)))
  show Mach L (pmOf { s with timers := Sf47.over s.timers t u, res := some (.inl u.on) } pb n) _
  have e4 : pmOf { s with timers := Sf47.over s.timers t u, res := some (.inl u.on) } pb n = { { { pmOf s pb n with tim := upN (pmOf s pb n).tim t u } with e := (pmOf s pb n).e.set t (.int (upN (pmOf s pb n).tim t u t).time), t := (pmOf s pb n).t.set t (.bl (upN (pmOf s pb n).tim t u t).on) } with res := .bl u.on } := by
    rw [e1, e2, ← e3]
    rfl
  rw [e4]
  show Mach L _ (upd H2 (L.A 0) (.ins L.CM (L.D 0) (putF "result" (.bl (upN (fun k => s.timers.getD k Sf47.noTim) t u t).on) _)))
  rw [eu]
  exact m3
theorem cnt_pm (s : Sf47.St) (pb : List Addr) (n t : Nat) (u : Sf47.Count) (rv : V) (r : Option Sf47.Val) (er : rv = resV r) (ht : t < s.counts.length) : pmOf { s with counts := Sf47.over s.counts t u, res := r } pb n =
    { { { pmOf s pb n with cnt := upN (pmOf s pb n).cnt t u } with v := (pmOf s pb n).v.set t (.int (upN (pmOf s pb n).cnt t u t).value), c := (pmOf s pb n).c.set t (.bl (upN (pmOf s pb n).cnt t u t).on) } with res := rv } := by
  have eu : upN (fun k => s.counts.getD k Sf47.noCount) t u t = u := if_pos rfl
  have e1 : ((pmOf s pb n).v.set t (.int (upN (pmOf s pb n).cnt t u t).value)) = (Sf47.over s.counts t u).map fun t => V.int t.value := by
    rw [map_over]
    show (s.counts.map fun t => V.int t.value).set t (.int (upN (fun k => s.counts.getD k Sf47.noCount) t u t).value) = _
    rw [eu]
  have e2 : ((pmOf s pb n).c.set t (.bl (upN (pmOf s pb n).cnt t u t).on)) = (Sf47.over s.counts t u).map fun t => V.bl t.on := by
    rw [map_over]
    show (s.counts.map fun t => V.bl t.on).set t (.bl (upN (fun k => s.counts.getD k Sf47.noCount) t u t).on) = _
    rw [eu]
  have e3 : (fun k => (Sf47.over s.counts t u).getD k Sf47.noCount) = upN (pmOf s pb n).cnt t u := funext fun k => getD_over s.counts t k u Sf47.noCount ht
  rw [e1, e2, ← e3, er]
  rfl
theorem sc_run_counter : FnScope ["machine", "step", "counter"] ["machine", "step"] (defScope s_run_counter) := ⟨rfl, rfl, rfl, by decide +kernel, rfl, by decide +kernel, by decide +kernel⟩
theorem ok_run_counter {f : Addr} {fd : FuncData} (F : Fun K "run_counter" "run_counter" s_run_counter f fd) (M : MTxt K mg CM fM fdM) (T : STxt K mg CS fS fdS) (B : Df P w K mg base (L2N.CX P w) 4 "bit_of" ["value"] (spBit fc)) (TC : CntTxt K mg CC fC fdC) (U : Df P w K mg base CX0 2 "count_up" ["counter", "on", "limit"] (spUp CC)) (W : Df P w K mg base CX0 1 "show_counter" ["machine", "number"] (spShC CM CT CC)) : FnOk P w K mg base (L2N.CX P w) 8 f fd ["machine", "step"] (spAct CM CT CC CS fc (fun i => ∃ c v, i = .ctu c v)) := by
  obtain ⟨fB, fdB, mB, kB, bB, FB⟩ := B
  obtain ⟨fW, fdW, mW, kW, bW, FW⟩ := W
  obtain ⟨fU, fdU, mU, kU, bU, FU⟩ := U
  refine okN (k := 7) F sc_run_counter act_len (fun cdv A0 outer s0 H vs Q E hr h => ?_)
  have hr4 : Room 4 _ := hr.mono (by decide)
  refine ⟨_, pss_cons (ps_set (i := 2) sc_run_counter.nd rfl (Or.inl rfl) (pe_ix ix_list (pe_fld (pv 0) (by rfl)) (pe_fld (pv 1) (by rfl)) (fun _ _ => rfl)))
    (pss_cons (ps_expr (pe_call FU (hr.mono (by decide)) (by rfl) mU kU bU .nil pass0 (pa_cons (pv 2) (pa_cons (pe_callS FB hr4 (by rfl) mB kB bB (fun σ => L2N.passAt (L2N.takes_of rfl rfl rfl rfl) σ) (pa_cons (pe_fld (pv 0) (by rfl)) pa_nil)) (pa_cons (pe_fld (pv 1) (by rfl)) pa_nil)))))
    (pss_cons (ps_expr (pe_call FW (hr.mono (by decide)) (by rfl) mW kW bW .nil pass0 (pa_cons (pv 0) (pa_cons (pe_fld (pv 1) (by rfl)) pa_nil))))
    (pss_one (ps_fld (pv 0) (pe_fld (pv 2) (by rfl)) rfl)))), ?_⟩
  obtain ⟨L, p, s, pb, n, ln, st, i, act, rfl, hR, A⟩ := h
  obtain ⟨t, v, rfl⟩ := hR
  obtain ⟨rfl, rfl, rfl, hI⟩ := A.ok
  obtain ⟨ds, cl, ix, hst, hcl, hout⟩ := A.st
  have ht : t < 32 := A.oi.1 _ rfl
  obtain ⟨ecl, eix⟩ := hcl _ rfl
  have eix : ix = (t : Int) := eix
  subst eix
  refine ⟨_, rfl, L.A 0, _, _, _, _, rfl, A.m 0 (by decide), M.cl, M.nU, get_counters _ _ _ _ _ _ _, _, rfl, st, _, _, _, _, rfl, hst, T.cl, T.nI, st_index _ _ _ _ _ _ _, _, _, _, _, rfl, rfl, SqL.of (A.m 12 (by decide)), cnts_at L ht, ?_⟩
  refine ⟨_, rfl, _, rfl, L.A 0, _, _, _, _, rfl, A.m 0 (by decide), M.cl, M.nR, get_result _ _ _ _ _ _ _, s.res, rfl, fun x ex => ?_, fun nb => (A.bad 1 (by show s.asBit.bind _ = _; rw [asBit_no nb]; rfl)).out⟩
  refine ⟨_, rfl, st, _, _, _, _, rfl, hst, T.cl, T.nM, st_limit _ _ _ _ _ _ _, ?_⟩
  have tm := A.m.cnt ht
  refine ⟨_, _, s.counts.getD t Sf47.noCount, x, v, rfl, tm, fun H1 o => ?_⟩
  have m1 := A.m.setCnt hI ht o.at_ o.oth
  have f1 : Frame L H H1 := Frame.at (j := t + 46) (by omega) o.oth
  have hst1 := f1 _ _ hst hout
  refine ⟨_, rfl, _, rfl, st, _, _, _, _, rfl, hst1, T.cl, T.nI, st_index _ _ _ _ _ _ _, ?_⟩
  refine ⟨L, _, t, rfl, ⟨rfl, rfl, rfl, hI⟩, m1, ht, ?_, ?_, fun H2 m2 f2 => ?_⟩
  · show (s.counts.map fun t => V.int t.value).length = 32
    rw [List.length_map, A.g.c]
  · show (s.counts.map fun t => V.bl t.on).length = 32
    rw [List.length_map, A.g.c]
  have tm2 := m2.cnt ht
  refine ⟨_, rfl, _, _, _, _, _, rfl, tm2, TC.cl, TC.nB, cnt_gbit _, ?_⟩
  refine ⟨_, rfl, L.A 0, _, _, _, rfl, m2 0 (by decide), M.cl, M.nR, (by show 7 < 1000; decide), ?_⟩
  generalize hu : (s.counts.getD t Sf47.noCount).use x v = u at m1 m2
  have run : s.run p (.ctu t v) = .ok ({ s with counts := Sf47.over s.counts t u, res := some (.inl u.on) }, .behind) := by
    show s.asBit.bind _ = _
    rw [asBit_ok ex]
    show Except.ok _ = _
    rw [← hu]
  have eu : upN (fun k => s.counts.getD k Sf47.noCount) t u t = u := if_pos rfl
  have m3 := m2.setRes hI (.bl u.on)
  refine A.good _ _ run _ pb ?_ (((A.pu.frame A.m f1).frame m1 f2).frame m2 (Frame.put (j := 0) (by decide))) ((f1.trans f2).trans (Frame.put (j := 0) (by decide)))
  rw [show pmOf { s with counts := Sf47.over s.counts t u, res := some (.inl u.on) } pb (nextAt p n .behind) = _ from cnt_pm s pb n t u (.bl u.on) (some (.inl u.on)) rfl (by rw [A.g.c]; exact ht)]
  show Mach L _ (upd H2 (L.A 0) (.ins L.CM (L.D 0) (putF "result" (.bl (upN (fun k => s.counts.getD k Sf47.noCount) t u t).on) _)))
  rw [eu]
  exact m3
theorem sc_reset_counter : FnScope ["machine", "step"] ["machine", "step"] (defScope s_reset_counter) := ⟨rfl, rfl, rfl, by decide +kernel, rfl, by decide +kernel, by decide +kernel⟩
theorem ok_reset_counter {f : Addr} {fd : FuncData} (F : Fun K "reset_counter" "reset_counter" s_reset_counter f fd) (M : MTxt K mg CM fM fdM) (T : STxt K mg CS fS fdS) (B : Df P w K mg base (L2N.CX P w) 4 "bit_of" ["value"] (spBit fc)) (U : Df P w K mg base CX0 1 "reset" ["counter"] (spReset CC)) (W : Df P w K mg base CX0 1 "show_counter" ["machine", "number"] (spShC CM CT CC)) : FnOk P w K mg base (L2N.CX P w) 8 f fd ["machine", "step"] (spAct CM CT CC CS fc (fun i => ∃ c, i = .rc c)) := by
  obtain ⟨fB, fdB, mB, kB, bB, FB⟩ := B
  obtain ⟨fW, fdW, mW, kW, bW, FW⟩ := W
  obtain ⟨fU, fdU, mU, kU, bU, FU⟩ := U
  refine okN (k := 7) F sc_reset_counter act_len (fun cdv A0 outer s0 H vs Q E hr h => ?_)
  have hr4 : Room 4 _ := hr.mono (by decide)
  refine ⟨_, pss_one (ps_if (pt_val (pe_callS FB hr4 (by rfl) mB kB bB (fun σ => L2N.passAt (L2N.takes_of rfl rfl rfl rfl) σ) (pa_cons (pe_fld (pv 0) (by rfl)) pa_nil)))
    (pss_cons (ps_expr (pe_call FU (hr.mono (by decide)) (by rfl) mU kU bU .nil pass0 (pa_cons (pe_ix ix_list (pe_fld (pv 0) (by rfl)) (pe_fld (pv 1) (by rfl)) (fun _ _ => rfl)) pa_nil)))
    (pss_one (ps_expr (pe_call FW (hr.mono (by decide)) (by rfl) mW kW bW .nil pass0 (pa_cons (pv 0) (pa_cons (pe_fld (pv 1) (by rfl)) pa_nil)))))) pss_nil), ?_⟩
  obtain ⟨L, p, s, pb, n, ln, st, i, act, rfl, hR, A⟩ := h
  obtain ⟨t, rfl⟩ := hR
  obtain ⟨rfl, rfl, rfl, hI⟩ := A.ok
  obtain ⟨ds, cl, ix, hst, hcl, hout⟩ := A.st
  have ht : t < 32 := A.oi.1 _ rfl
  obtain ⟨ecl, eix⟩ := hcl _ rfl
  have eix : ix = (t : Int) := eix
  subst eix
  refine ⟨_, rfl, L.A 0, _, _, _, _, rfl, A.m 0 (by decide), M.cl, M.nR, get_result _ _ _ _ _ _ _, s.res, rfl, fun x ex => ?_, fun nb => (A.bad 1 (by show s.asBit.bind _ = _; rw [asBit_no nb]; rfl)).out⟩
  refine ⟨_, rfl, ?_⟩
  have run : s.run p (.rc t) = .ok (if x = true then { s with counts := Sf47.over s.counts t { s.counts.getD t Sf47.noCount with value := 0, on := false } } else s, .behind) := by
    show s.asBit.bind _ = _
    rw [asBit_ok ex]
    rfl
  cases x with
  | false => exact iteF (A.good s .behind run H pb A.m A.pu (Frame.refl L H))
  | true =>
    refine iteT ⟨_, rfl, L.A 0, _, _, _, _, rfl, A.m 0 (by decide), M.cl, M.nU, get_counters _ _ _ _ _ _ _, _, rfl, st, _, _, _, _, rfl, hst, T.cl, T.nI, st_index _ _ _ _ _ _ _, _, _, _, _, rfl, rfl, SqL.of (A.m 12 (by decide)), cnts_at L ht, ?_⟩
    refine ⟨_, _, s.counts.getD t Sf47.noCount, rfl, A.m.cnt ht, fun H1 o => ?_⟩
    have m1 := A.m.setCnt hI ht o.at_ o.oth
    have f1 : Frame L H H1 := Frame.at (j := t + 46) (by omega) o.oth
    have hst1 := f1 _ _ hst hout
    refine ⟨_, rfl, _, rfl, st, _, _, _, _, rfl, hst1, T.cl, T.nI, st_index _ _ _ _ _ _ _, ?_⟩
    refine ⟨L, _, t, rfl, ⟨rfl, rfl, rfl, hI⟩, m1, ht, ?_, ?_, fun H2 m2 f2 => ?_⟩
    · show (s.counts.map fun t => V.int t.value).length = 32
      rw [List.length_map, A.g.c]
    · show (s.counts.map fun t => V.bl t.on).length = 32
      rw [List.length_map, A.g.c]
    refine A.good _ _ run _ pb ?_ ((A.pu.frame A.m f1).frame m1 f2) (f1.trans f2)
    show Mach L (pmOf { s with counts := Sf47.over s.counts t { s.counts.getD t Sf47.noCount with value := 0, on := false }, res := s.res } pb n) H2
    rw [cnt_pm s pb n t _ (resV s.res) s.res rfl (by rw [A.g.c]; exact ht)]
    exact m2
theorem sc_rise : FnScope ["machine", "step", "on"] ["machine", "step"] (defScope s_rise) := ⟨rfl, rfl, rfl, by decide +kernel, rfl, by decide +kernel, by decide +kernel⟩
theorem ok_rise {f : Addr} {fd : FuncData} (F : Fun K "rise" "rise" s_rise f fd) (M : MTxt K mg CM fM fdM) (T : STxt K mg CS fS fdS) (B : Df P w K mg base (L2N.CX P w) 4 "bit_of" ["value"] (spBit fc)) : FnOk P w K mg base (L2N.CX P w) 8 f fd ["machine", "step"] (spAct CM CT CC CS fc (fun i => ∃ k, i = .edge true k)) := by
  obtain ⟨fB, fdB, mB, kB, bB, FB⟩ := B
  refine okN (k := 7) F sc_rise act_len (fun cdv A0 outer s0 H vs Q E hr h => ?_)
  have hr4 : Room 4 _ := hr.mono (by decide)
  refine ⟨_, pss_cons (ps_set (i := 2) sc_rise.nd rfl (Or.inl rfl) (pe_callS FB hr4 (by rfl) mB kB bB (fun σ => L2N.passAt (L2N.takes_of rfl rfl rfl rfl) σ) (pa_cons (pe_fld (pv 0) (by rfl)) pa_nil)))
    (pss_cons (ps_fld (pv 0) (pe_and (pv 2) (pe_one (pe_not (pe_ix ix_list (pe_fld (pv 1) (by rfl)) (pe_fld (pv 1) (by rfl)) (fun _ _ => rfl))))) rfl) (pss_one (ps_asg (pv 2) (pg_sub (pe_fld (pv 1) (by rfl)) (pe_fld (pv 1) (by rfl)) set_list)))), ?_⟩
  obtain ⟨L, p, s, pb, n, ln, st, i, act, rfl, hR, A⟩ := h
  obtain ⟨k, rfl⟩ := hR
  obtain ⟨rfl, rfl, rfl, hI⟩ := A.ok
  obtain ⟨ds, cl, ix, hst, hcl, hout⟩ := A.st
  refine ⟨_, rfl, L.A 0, _, _, _, _, rfl, A.m 0 (by decide), M.cl, M.nR, get_result _ _ _ _ _ _ _, s.res, rfl, fun x ex => ?_, fun nb => (A.bad 1 (by show s.asBit.bind _ = _; rw [asBit_no nb]; rfl)).out⟩
  obtain ⟨a, xs, rfl, ha, hx⟩ := cell_read A.m (hcl (.inl (.m k)) rfl) (A.oi.1 _ rfl) A.g
  have m1 := A.m.setRes hI (.bl (x && !s.m.getD k false))
  have f1 : Frame L H (upd H (L.A 0) (.ins L.CM (L.D 0) (putF "result" (.bl (x && !s.m.getD k false)) (machF (.ref (L.A 1)) (.ref (L.A 11)) (.ref (L.A 12)) (.int (pmOf s pb n).now) (pmOf s pb n).res (.ref (L.A 13)) (.int (pmOf s pb n).at_))))) := Frame.put (j := 0) (by decide)
  have m1' : Mach L (pmOf { s with res := some (.inl (x && !s.m.getD k false)) } pb n) _ := m1
  have hst1 := f1 _ _ hst hout
  have g1 : Good { s with res := some (.inl (x && !s.m.getD k false)) } := res_good A.g trivial
  obtain ⟨b, ys, j, eb, hb, hk, m2, f2⟩ := cell_bit hI m1' ((hcl (.inl (.m k)) rfl).frame f1) rfl (A.oi.1 _ rfl) g1 x
  have run : s.run p (.edge true k) = .ok ({ s with m := Sf47.over s.m k x, res := some (.inl (x && !s.m.getD k false)) }, .behind) := by
    show s.asBit.bind _ = _
    rw [asBit_ok ex]
    rfl
  have fin : ∃ v, [some (V.ref (L.A 0)), some (V.ref st), some (V.bl x)][0]? = some (some v) ∧ ∃ a' C' dx' fs', v = .ref a' ∧ H a' = some (.ins C' dx' fs') ∧ Cls K C' ∧ NoAttr K C' "result" ∧ fs'.length < 1000 ∧ True := ⟨_, rfl, L.A 0, _, _, _, rfl, A.m 0 (by decide), M.cl, M.nR, (by show 7 < 1000; decide), trivial⟩
  refine ⟨_, rfl, _, rfl, ?_⟩
  cases x with
  | true => exact iteT ⟨_, rfl, st, _, _, _, _, rfl, hst, T.cl, T.nC, st_cells _ _ _ _ _ _ _, _, rfl, st, _, _, _, _, rfl, hst, T.cl, T.nI, st_index _ _ _ _ _ _ _, a, xs, ix, _, rfl, rfl, SqL.of ha, hx, s.m.getD k false, rfl, ⟨_, rfl, L.A 0, _, _, _, rfl, A.m 0 (by decide), M.cl, M.nR, (by show 7 < 1000; decide), _, rfl, _, rfl, st, _, _, _, _, rfl, hst1, T.cl, T.nC, st_cells _ _ _ _ _ _ _, _, rfl, st, _, _, _, _, rfl, hst1, T.cl, T.nI, st_index _ _ _ _ _ _ _, b, ys, ix, j, eb, rfl, hb, hk, A.good _ _ run _ pb m2 ((A.pu.frame A.m f1).frame m1 f2) (f1.trans f2)⟩⟩
  | false => exact iteF ⟨_, rfl, L.A 0, _, _, _, rfl, A.m 0 (by decide), M.cl, M.nR, (by show 7 < 1000; decide), _, rfl, _, rfl, st, _, _, _, _, rfl, hst1, T.cl, T.nC, st_cells _ _ _ _ _ _ _, _, rfl, st, _, _, _, _, rfl, hst1, T.cl, T.nI, st_index _ _ _ _ _ _ _, b, ys, ix, j, eb, rfl, hb, hk, A.good _ _ run _ pb m2 ((A.pu.frame A.m f1).frame m1 f2) (f1.trans f2)⟩
theorem sc_fall : FnScope ["machine", "step", "on"] ["machine", "step"] (defScope s_fall) := ⟨rfl, rfl, rfl, by decide +kernel, rfl, by decide +kernel, by decide +kernel⟩
theorem ok_fall {f : Addr} {fd : FuncData} (F : Fun K "fall" "fall" s_fall f fd) (M : MTxt K mg CM fM fdM) (T : STxt K mg CS fS fdS) (B : Df P w K mg base (L2N.CX P w) 4 "bit_of" ["value"] (spBit fc)) : FnOk P w K mg base (L2N.CX P w) 8 f fd ["machine", "step"] (spAct CM CT CC CS fc (fun i => ∃ k, i = .edge false k)) := by
  obtain ⟨fB, fdB, mB, kB, bB, FB⟩ := B
  refine okN (k := 7) F sc_fall act_len (fun cdv A0 outer s0 H vs Q E hr h => ?_)
  have hr4 : Room 4 _ := hr.mono (by decide)
  refine ⟨_, pss_cons (ps_set (i := 2) sc_fall.nd rfl (Or.inl rfl) (pe_callS FB hr4 (by rfl) mB kB bB (fun σ => L2N.passAt (L2N.takes_of rfl rfl rfl rfl) σ) (pa_cons (pe_fld (pv 0) (by rfl)) pa_nil)))
    (pss_cons (ps_fld (pv 0) (pe_and (pe_not (pv 2)) (pe_one (pe_ix ix_list (pe_fld (pv 1) (by rfl)) (pe_fld (pv 1) (by rfl)) (fun _ _ => rfl)))) rfl) (pss_one (ps_asg (pv 2) (pg_sub (pe_fld (pv 1) (by rfl)) (pe_fld (pv 1) (by rfl)) set_list)))), ?_⟩
  obtain ⟨L, p, s, pb, n, ln, st, i, act, rfl, hR, A⟩ := h
  obtain ⟨k, rfl⟩ := hR
  obtain ⟨rfl, rfl, rfl, hI⟩ := A.ok
  obtain ⟨ds, cl, ix, hst, hcl, hout⟩ := A.st
  refine ⟨_, rfl, L.A 0, _, _, _, _, rfl, A.m 0 (by decide), M.cl, M.nR, get_result _ _ _ _ _ _ _, s.res, rfl, fun x ex => ?_, fun nb => (A.bad 1 (by show s.asBit.bind _ = _; rw [asBit_no nb]; rfl)).out⟩
  obtain ⟨a, xs, rfl, ha, hx⟩ := cell_read A.m (hcl (.inl (.m k)) rfl) (A.oi.1 _ rfl) A.g
  have m1 := A.m.setRes hI (.bl (!x && s.m.getD k false))
  have f1 : Frame L H (upd H (L.A 0) (.ins L.CM (L.D 0) (putF "result" (.bl (!x && s.m.getD k false)) (machF (.ref (L.A 1)) (.ref (L.A 11)) (.ref (L.A 12)) (.int (pmOf s pb n).now) (pmOf s pb n).res (.ref (L.A 13)) (.int (pmOf s pb n).at_))))) := Frame.put (j := 0) (by decide)
  have m1' : Mach L (pmOf { s with res := some (.inl (!x && s.m.getD k false)) } pb n) _ := m1
  have hst1 := f1 _ _ hst hout
  have g1 : Good { s with res := some (.inl (!x && s.m.getD k false)) } := res_good A.g trivial
  obtain ⟨b, ys, j, eb, hb, hk, m2, f2⟩ := cell_bit hI m1' ((hcl (.inl (.m k)) rfl).frame f1) rfl (A.oi.1 _ rfl) g1 x
  have run : s.run p (.edge false k) = .ok ({ s with m := Sf47.over s.m k x, res := some (.inl (!x && s.m.getD k false)) }, .behind) := by
    show s.asBit.bind _ = _
    rw [asBit_ok ex]
    rfl
  have fin : ∃ v, [some (V.ref (L.A 0)), some (V.ref st), some (V.bl x)][0]? = some (some v) ∧ ∃ a' C' dx' fs', v = .ref a' ∧ H a' = some (.ins C' dx' fs') ∧ Cls K C' ∧ NoAttr K C' "result" ∧ fs'.length < 1000 ∧ True := ⟨_, rfl, L.A 0, _, _, _, rfl, A.m 0 (by decide), M.cl, M.nR, (by show 7 < 1000; decide), trivial⟩
  refine ⟨_, rfl, _, rfl, ?_⟩
  cases x with
  | true => exact ⟨_, rfl, iteF ⟨_, rfl, L.A 0, _, _, _, rfl, A.m 0 (by decide), M.cl, M.nR, (by show 7 < 1000; decide), _, rfl, _, rfl, st, _, _, _, _, rfl, hst1, T.cl, T.nC, st_cells _ _ _ _ _ _ _, _, rfl, st, _, _, _, _, rfl, hst1, T.cl, T.nI, st_index _ _ _ _ _ _ _, b, ys, ix, j, eb, rfl, hb, hk, A.good _ _ run _ pb m2 ((A.pu.frame A.m f1).frame m1 f2) (f1.trans f2)⟩⟩
  | false => exact ⟨_, rfl, iteT ⟨_, rfl, st, _, _, _, _, rfl, hst, T.cl, T.nC, st_cells _ _ _ _ _ _ _, _, rfl, st, _, _, _, _, rfl, hst, T.cl, T.nI, st_index _ _ _ _ _ _ _, a, xs, ix, _, rfl, rfl, SqL.of ha, hx, ⟨_, rfl, L.A 0, _, _, _, rfl, A.m 0 (by decide), M.cl, M.nR, (by show 7 < 1000; decide), _, rfl, _, rfl, st, _, _, _, _, rfl, hst1, T.cl, T.nC, st_cells _ _ _ _ _ _ _, _, rfl, st, _, _, _, _, rfl, hst1, T.cl, T.nI, st_index _ _ _ _ _ _ _, b, ys, ix, j, eb, rfl, hb, hk, A.good _ _ run _ pb m2 ((A.pu.frame A.m f1).frame m1 f2) (f1.trans f2)⟩⟩⟩
end
end Sl
set_option Elab.async false
set_option linter.all false
set_option maxRecDepth 100000
set_option maxHeartbeats 4000000
namespace Sl
open PySem PySem.Spec PyProof.Rows L2 SlM
def actFn : Sf47.Insn → Str
  | .ld _ => "load"
  | .ldn _ => "load_other"
  | .st false _ => "store_bit"
  | .st true _ => "store_other"
  | .stw _ => "store_word"
  | .put true _ => "set_bit"
  | .put false _ => "clear_bit"
  | .not => "turn"
  | .bin _ _ => "operate"
  | .open_ _ _ => "put_off"
  | .close => "close"
  | .jmp .always _ => "go_on"
  | .jmp .one _ => "go_on_if"
  | .jmp .zero _ => "go_on_unless"
  | .ret false => "go_on"
  | .ret true => "go_on_if"
  | .timer _ _ _ => "run_timer"
  | .ctu _ _ => "run_counter"
  | .rc _ => "reset_counter"
  | .edge true _ => "rise"
  | .edge false _ => "fall"
theorem bin_act (o : Sf47.Bin) : actTab.lookup (S (binName o)) = none ∧ decide (V.str (S (binName o)) = V.str (Str.ofString "ST")) = false := by
  rcases o with ⟨_ | _ | _, _ | _⟩ | (_ | _ | _ | _ | _) | (_ | _ | _ | _ | _ | _) <;> decide +kernel
/-- how an instruction's action is found -/
theorem act_look (i : Sf47.Insn) (h1 : ∀ o x, i ≠ .open_ o x) (h2 : ∀ n, i ≠ .stw n) : (match actTab.lookup (S (insKV i).1) with | some y => y | none => "operate") = actFn i ∧ ((∀ b, i ≠ .st false b) → decide (V.str (S (insKV i).1) = V.str (Str.ofString "ST")) = false) ∧ (insKV i).2.1 = false := by
  cases i with
  | open_ o x => exact absurd rfl (h1 o x)
  | stw n => exact absurd rfl (h2 n)
  | bin o x =>
    refine ⟨?_, fun _ => (bin_act o).2, rfl⟩
    show (match actTab.lookup (S (binName o)) with | some y => y | none => "operate") = _
    rw [(bin_act o).1]
    rfl
  | ld x => exact ⟨(by decide +kernel : (match actTab.lookup (S (Sf47.txt "LD")) with | some y => y | none => "operate") = Str.ofString "load"), fun _ => (by decide +kernel : decide (V.str (S (Sf47.txt "LD")) = V.str (Str.ofString "ST")) = false), rfl⟩
  | ldn x => exact ⟨(by decide +kernel : (match actTab.lookup (S (Sf47.txt "LDN")) with | some y => y | none => "operate") = Str.ofString "load_other"), fun _ => (by decide +kernel : decide (V.str (S (Sf47.txt "LDN")) = V.str (Str.ofString "ST")) = false), rfl⟩
  | st n b =>
    cases n with
    | false => exact ⟨(by decide +kernel : (match actTab.lookup (S (Sf47.txt "ST")) with | some y => y | none => "operate") = Str.ofString "store_bit"), fun h => absurd rfl (h b), rfl⟩
    | true => exact ⟨(by decide +kernel : (match actTab.lookup (S (Sf47.txt "STN")) with | some y => y | none => "operate") = Str.ofString "store_other"), fun _ => (by decide +kernel : decide (V.str (S (Sf47.txt "STN")) = V.str (Str.ofString "ST")) = false), rfl⟩
  | put n b =>
    cases n with
    | true => exact ⟨(by decide +kernel : (match actTab.lookup (S (Sf47.txt "S")) with | some y => y | none => "operate") = Str.ofString "set_bit"), fun _ => (by decide +kernel : decide (V.str (S (Sf47.txt "S")) = V.str (Str.ofString "ST")) = false), rfl⟩
    | false => exact ⟨(by decide +kernel : (match actTab.lookup (S (Sf47.txt "R")) with | some y => y | none => "operate") = Str.ofString "clear_bit"), fun _ => (by decide +kernel : decide (V.str (S (Sf47.txt "R")) = V.str (Str.ofString "ST")) = false), rfl⟩
  | not => exact ⟨(by decide +kernel : (match actTab.lookup (S (Sf47.txt "NOT")) with | some y => y | none => "operate") = Str.ofString "turn"), fun _ => (by decide +kernel : decide (V.str (S (Sf47.txt "NOT")) = V.str (Str.ofString "ST")) = false), rfl⟩
  | close => exact ⟨(by decide +kernel : (match actTab.lookup (S (Sf47.txt ")")) with | some y => y | none => "operate") = Str.ofString "close"), fun _ => (by decide +kernel : decide (V.str (S (Sf47.txt ")")) = V.str (Str.ofString "ST")) = false), rfl⟩
  | jmp k l =>
    cases k with
    | always => exact ⟨(by decide +kernel : (match actTab.lookup (S (Sf47.txt "JMP")) with | some y => y | none => "operate") = Str.ofString "go_on"), fun _ => (by decide +kernel : decide (V.str (S (Sf47.txt "JMP")) = V.str (Str.ofString "ST")) = false), rfl⟩
    | one => exact ⟨(by decide +kernel : (match actTab.lookup (S (Sf47.txt "JMPC")) with | some y => y | none => "operate") = Str.ofString "go_on_if"), fun _ => (by decide +kernel : decide (V.str (S (Sf47.txt "JMPC")) = V.str (Str.ofString "ST")) = false), rfl⟩
    | zero => exact ⟨(by decide +kernel : (match actTab.lookup (S (Sf47.txt "JMPCN")) with | some y => y | none => "operate") = Str.ofString "go_on_unless"), fun _ => (by decide +kernel : decide (V.str (S (Sf47.txt "JMPCN")) = V.str (Str.ofString "ST")) = false), rfl⟩
  | ret c =>
    cases c with
    | false => exact ⟨(by decide +kernel : (match actTab.lookup (S (Sf47.txt "RET")) with | some y => y | none => "operate") = Str.ofString "go_on"), fun _ => (by decide +kernel : decide (V.str (S (Sf47.txt "RET")) = V.str (Str.ofString "ST")) = false), rfl⟩
    | true => exact ⟨(by decide +kernel : (match actTab.lookup (S (Sf47.txt "RETC")) with | some y => y | none => "operate") = Str.ofString "go_on_if"), fun _ => (by decide +kernel : decide (V.str (S (Sf47.txt "RETC")) = V.str (Str.ofString "ST")) = false), rfl⟩
  | timer k t v =>
    cases k with
    | ton => exact ⟨(by decide +kernel : (match actTab.lookup (S (Sf47.txt "TON")) with | some y => y | none => "operate") = Str.ofString "run_timer"), fun _ => (by decide +kernel : decide (V.str (S (Sf47.txt "TON")) = V.str (Str.ofString "ST")) = false), rfl⟩
    | tof => exact ⟨(by decide +kernel : (match actTab.lookup (S (Sf47.txt "TOF")) with | some y => y | none => "operate") = Str.ofString "run_timer"), fun _ => (by decide +kernel : decide (V.str (S (Sf47.txt "TOF")) = V.str (Str.ofString "ST")) = false), rfl⟩
    | tp => exact ⟨(by decide +kernel : (match actTab.lookup (S (Sf47.txt "TP")) with | some y => y | none => "operate") = Str.ofString "run_timer"), fun _ => (by decide +kernel : decide (V.str (S (Sf47.txt "TP")) = V.str (Str.ofString "ST")) = false), rfl⟩
  | ctu c v => exact ⟨(by decide +kernel : (match actTab.lookup (S (Sf47.txt "CTU")) with | some y => y | none => "operate") = Str.ofString "run_counter"), fun _ => (by decide +kernel : decide (V.str (S (Sf47.txt "CTU")) = V.str (Str.ofString "ST")) = false), rfl⟩
  | rc c => exact ⟨(by decide +kernel : (match actTab.lookup (S (Sf47.txt "RC")) with | some y => y | none => "operate") = Str.ofString "reset_counter"), fun _ => (by decide +kernel : decide (V.str (S (Sf47.txt "RC")) = V.str (Str.ofString "ST")) = false), rfl⟩
  | edge u m =>
    cases u with
    | true => exact ⟨(by decide +kernel : (match actTab.lookup (S (Sf47.txt "UP")) with | some y => y | none => "operate") = Str.ofString "rise"), fun _ => (by decide +kernel : decide (V.str (S (Sf47.txt "UP")) = V.str (Str.ofString "ST")) = false), rfl⟩
    | false => exact ⟨(by decide +kernel : (match actTab.lookup (S (Sf47.txt "DOWN")) with | some y => y | none => "operate") = Str.ofString "fall"), fun _ => (by decide +kernel : decide (V.str (S (Sf47.txt "DOWN")) = V.str (Str.ofString "ST")) = false), rfl⟩
/-- the first operand -/
theorem op_first (i : Sf47.Insn) : (∃ x r, opdOf i = some x ∧ (insKV i).2.2 = SlM.E x :: r ∧ ∀ k l, i ≠ .jmp k l) ∨ (opdOf i = none ∧ (insKV i).2.2 = [] ∧ ∀ k l, i ≠ .jmp k l) ∨ ∃ k l, i = .jmp k l := by
  cases i with
  | jmp k l => exact .inr (.inr ⟨k, l, rfl⟩)
  | not => exact .inr (.inl ⟨rfl, rfl, fun k l h => by cases h⟩)
  | close => exact .inr (.inl ⟨rfl, rfl, fun k l h => by cases h⟩)
  | ret c => exact .inr (.inl ⟨rfl, rfl, fun k l h => by cases h⟩)
  | _ => exact .inl ⟨_, _, rfl, rfl, fun k l h => by cases h⟩
theorem op_limit (i : Sf47.Insn) : ((insKV i).2.2.length ≤ 1 ∧ limOf i = 0) ∨ ∃ a z, (insKV i).2.2 = [a, (Sf47.txt "number", .inr z)] ∧ limOf i = z := by
  cases i with
  | timer k t v => exact .inr ⟨_, _, rfl, rfl⟩
  | ctu c v => exact .inr ⟨_, _, rfl, rfl⟩
  | jmp k l => exact .inl ⟨Nat.le_refl _, rfl⟩
  | not => exact .inl ⟨Nat.zero_le _, rfl⟩
  | close => exact .inl ⟨Nat.zero_le _, rfl⟩
  | ret c => exact .inl ⟨Nat.zero_le _, rfl⟩
  | _ => exact .inl ⟨Nat.le_refl _, rfl⟩
theorem kind_label (x : Sf47.Bit ⊕ Sf47.Word) : decide (V.str (S (opKV x).1) = V.str (Str.ofString "label")) = false := by
  rcases x with (n | n | n | n | n | b) | (n | n | n | z)
  · exact (by decide +kernel : decide (V.str (S (Sf47.txt "I")) = V.str (Str.ofString "label")) = false)
  · exact (by decide +kernel : decide (V.str (S (Sf47.txt "Q")) = V.str (Str.ofString "label")) = false)
  · exact (by decide +kernel : decide (V.str (S (Sf47.txt "M")) = V.str (Str.ofString "label")) = false)
  · exact (by decide +kernel : decide (V.str (S (Sf47.txt "T")) = V.str (Str.ofString "label")) = false)
  · exact (by decide +kernel : decide (V.str (S (Sf47.txt "C")) = V.str (Str.ofString "label")) = false)
  · exact (by decide +kernel : decide (V.str (S (Sf47.txt "constant")) = V.str (Str.ofString "label")) = false)
  · exact (by decide +kernel : decide (V.str (S (Sf47.txt "W")) = V.str (Str.ofString "label")) = false)
  · exact (by decide +kernel : decide (V.str (S (Sf47.txt "E")) = V.str (Str.ofString "label")) = false)
  · exact (by decide +kernel : decide (V.str (S (Sf47.txt "V")) = V.str (Str.ofString "label")) = false)
  · exact (by decide +kernel : decide (V.str (S (Sf47.txt "number")) = V.str (Str.ofString "label")) = false)
theorem kind_W (b : Sf47.Bit) : decide (V.str (S (opKV (.inl b)).1) = V.str (Str.ofString "W")) = false := by
  rcases b with n | n | n | n | n | b
  · exact (by decide +kernel : decide (V.str (S (Sf47.txt "I")) = V.str (Str.ofString "W")) = false)
  · exact (by decide +kernel : decide (V.str (S (Sf47.txt "Q")) = V.str (Str.ofString "W")) = false)
  · exact (by decide +kernel : decide (V.str (S (Sf47.txt "M")) = V.str (Str.ofString "W")) = false)
  · exact (by decide +kernel : decide (V.str (S (Sf47.txt "T")) = V.str (Str.ofString "W")) = false)
  · exact (by decide +kernel : decide (V.str (S (Sf47.txt "C")) = V.str (Str.ofString "W")) = false)
  · exact (by decide +kernel : decide (V.str (S (Sf47.txt "constant")) = V.str (Str.ofString "W")) = false)
theorem cell_lt (x : Sf47.Bit ⊕ Sf47.Word) : cellIx x < 78 := by
  rcases x with (n | n | n | n | n | b) | (n | n | n | z)
  · exact (by decide : 4 < 78)
  · exact (by decide : 5 < 78)
  · exact (by decide : 6 < 78)
  · exact (by decide : 7 < 78)
  · exact (by decide : 8 < 78)
  · exact (by decide : 2 < 78)
  · exact (by decide : 3 < 78)
  · exact (by decide : 9 < 78)
  · exact (by decide : 10 < 78)
  · exact (by decide : 0 < 78)
/-- the operand's list -/
theorem kind_cells (L : Lay) (x : Sf47.Bit ⊕ Sf47.Word) (h : ∀ z, x ≠ .inr (.lit z)) : decide (V.str (S (opKV x).1) = V.str (Str.ofString "number")) = false ∧ L2.valV (cellsK L.A) (Sum.inr (S (opKV x).1) : Key) = some (.ref (L.A (cellIx x))) := by
  rcases x with (n | n | n | n | n | b) | (n | n | n | z)
  · exact ⟨(by decide +kernel : decide (V.str (S (Sf47.txt "I")) = V.str (Str.ofString "number")) = false), (by kernel_rfl : L2.valV (cellsK L.A) (Sum.inr (S (Sf47.txt "I")) : Key) = some (.ref (L.A 4)))⟩
  · exact ⟨(by decide +kernel : decide (V.str (S (Sf47.txt "Q")) = V.str (Str.ofString "number")) = false), (by kernel_rfl : L2.valV (cellsK L.A) (Sum.inr (S (Sf47.txt "Q")) : Key) = some (.ref (L.A 5)))⟩
  · exact ⟨(by decide +kernel : decide (V.str (S (Sf47.txt "M")) = V.str (Str.ofString "number")) = false), (by kernel_rfl : L2.valV (cellsK L.A) (Sum.inr (S (Sf47.txt "M")) : Key) = some (.ref (L.A 6)))⟩
  · exact ⟨(by decide +kernel : decide (V.str (S (Sf47.txt "T")) = V.str (Str.ofString "number")) = false), (by kernel_rfl : L2.valV (cellsK L.A) (Sum.inr (S (Sf47.txt "T")) : Key) = some (.ref (L.A 7)))⟩
  · exact ⟨(by decide +kernel : decide (V.str (S (Sf47.txt "C")) = V.str (Str.ofString "number")) = false), (by kernel_rfl : L2.valV (cellsK L.A) (Sum.inr (S (Sf47.txt "C")) : Key) = some (.ref (L.A 8)))⟩
  · exact ⟨(by decide +kernel : decide (V.str (S (Sf47.txt "constant")) = V.str (Str.ofString "number")) = false), (by kernel_rfl : L2.valV (cellsK L.A) (Sum.inr (S (Sf47.txt "constant")) : Key) = some (.ref (L.A 2)))⟩
  · exact ⟨(by decide +kernel : decide (V.str (S (Sf47.txt "W")) = V.str (Str.ofString "number")) = false), (by kernel_rfl : L2.valV (cellsK L.A) (Sum.inr (S (Sf47.txt "W")) : Key) = some (.ref (L.A 3)))⟩
  · exact ⟨(by decide +kernel : decide (V.str (S (Sf47.txt "E")) = V.str (Str.ofString "number")) = false), (by kernel_rfl : L2.valV (cellsK L.A) (Sum.inr (S (Sf47.txt "E")) : Key) = some (.ref (L.A 9)))⟩
  · exact ⟨(by decide +kernel : decide (V.str (S (Sf47.txt "V")) = V.str (Str.ofString "number")) = false), (by kernel_rfl : L2.valV (cellsK L.A) (Sum.inr (S (Sf47.txt "V")) : Key) = some (.ref (L.A 10)))⟩
  · exact absurd rfl (h z)
section
variable {P : Program} {w : World} {K : PySem.W.Frag} {mg : Str → Option Value} {base : Heap} {CL CS fI fS : Addr} {fdI fdS : FuncData}
/-! ### action_of -/
def spActOf (CL : Addr) (mg : Str → Option Value) : Sp := fun vs H Q _ => ∃ (r : Addr) (lab : Option Bytes) (i : Sf47.Insn), vs = [.ref r] ∧ LineAt CL H r (lab, some i) ∧ ∀ f, mg (actFn i) = some (.ref f) → Q (.ref f) H
theorem sc_aof : FnScope ["line"] ["line"] (defScope s_action_of) := ⟨rfl, rfl, rfl, by decide +kernel, rfl, by decide +kernel, by decide +kernel⟩
theorem ok_aof {f : Addr} {fd : FuncData} (F : Fun K "action_of" "action_of" s_action_of f fd) (T : LnTxt K mg CL fI fdI) (C : FnTab K w mg "ACTIONS" actTab) {fP fW fO : Addr} (mP : mg "put_off" = some (.ref fP)) (mW : mg "store_word" = some (.ref fW)) (mO : mg "operate" = some (.ref fO)) : FnOk P w K mg base CX0 1 f fd ["line"] (spActOf CL mg) := by
  obtain ⟨dC, mC, TC⟩ := C
  have hR : ∀ (y : Str) (u : Value), (mg y = some u ∧ ∃ f, u = .ref f) → ∃ v, L2.RelV v u := fun y u ⟨_, f, e⟩ => ⟨.ref f, e⟩
  refine F.ok sc_aof (fun vs H Q E h => ?_) (fun cdv A outer s H vs Q E hr h => ?_)
  · obtain ⟨r, lab, i, rfl, _⟩ := h
    rfl
  · refine ⟨_, pss_cons (ps_if (pt_val (pe_fld (pv 0) (by rfl))) (pss_one (ps_ret (pe_glob (v := .ref fP) (by rfl) mP rfl))) pss_nil)
      (pss_cons (ps_if (PW.pt (pw_and (pt_cmpR op_eq (pe_fld (pv 0) (by rfl)) pe_str (nomark _)) (pw_and1 (pt_cmpR op_eq (pe_ix ix_tup (pe_ix ix_list (pe_fld (pv 0) (by rfl)) pe_int (fun _ _ => rfl)) pe_int (fun _ _ => rfl)) pe_str (nomark _)))))
        (pss_one (ps_ret (pe_glob (v := .ref fW) (by rfl) mW rfl))) pss_nil)
      (pss_one (ps_ret (pe_tabGet TC hR (pe_glob (v := .ref dC) (by rfl) mC rfl) (pe_fld (pv 0) (by rfl)) (pe_glob (v := .ref fO) (by rfl) mO rfl) ⟨by rfl, by rfl, by rfl, by rfl⟩)))), ?_⟩
    obtain ⟨r, lab, i, rfl, ⟨dx, p, e1, rs, e2, pr⟩, k⟩ := h
    refine ⟨_, rfl, r, CL, dx, _, _, rfl, e1, T.cl, T.nO, lnF_opens _ _ _ _, _, rfl, ?_⟩
    by_cases ho : ∃ o x, i = .open_ o x
    · obtain ⟨o, x, rfl⟩ := ho
      exact iteT (k fP mP)
    by_cases hw : ∃ n, i = .stw n
    · obtain ⟨n, rfl⟩ := hw
      refine iteF ⟨_, rfl, r, CL, dx, _, _, rfl, e1, T.cl, T.nN, lnF_name _ _ _ _, rfl, _, rfl, ?_⟩
      refine if_t (by decide +kernel : decide (V.str (S (Sf47.txt "ST")) = V.str (Str.ofString "ST")) = true) ?_
      have pr : Paired (fun r o => H r = some (.tup (opdV o))) rs [SlM.E (.inr (.w n))] := pr
      cases pr with
      | @cons t _ _ _ pt _ =>
        refine ⟨_, rfl, r, CL, dx, _, _, rfl, e1, T.cl, T.nP, lnF_operands _ _ _ _, p, _, _, _, rfl, rfl, SqL.of e2, atI_nat (j := 0) rfl, t, _, _, _, rfl, rfl, SqT.of pt, atI_nat (j := 0) rfl, rfl, _, rfl, ?_⟩
        exact if_t (by decide +kernel : decide (V.str (S (Sf47.txt "W")) = V.str (Str.ofString "W")) = true) (k fW mW)
    · have h1 : ∀ o x, i ≠ .open_ o x := fun o x e => ho ⟨o, x, e⟩
      have h2 : ∀ n, i ≠ .stw n := fun n e => hw ⟨n, e⟩
      obtain ⟨l1, l2, l3⟩ := act_look i h1 h2
      refine if_f l3 ?_
      have rest : tRet (tTabGet dC (fun (y : Str) u => mg y = some u ∧ ∃ f, u = .ref f) actTab (L2.tC (.ref dC)) (tFld K (tVar 0) "name") (L2.tC (.ref fO))) { nx := fun _ H' => Q .non H', rt := Q } [some (.ref r)] H := by
        refine ⟨rfl, _, rfl, r, CL, dx, _, _, rfl, e1, T.cl, T.nN, lnF_name _ _ _ _, _, rfl, ?_⟩
        cases q : actTab.lookup (S (insKV i).1) with
        | none =>
          rw [q] at l1
          have l1 : Str.ofString "operate" = actFn i := l1
          exact k fO (by rw [← l1]; exact mO)
        | some y =>
          rw [q] at l1
          have l1 : y = actFn i := l1
          intro v u hu rv
          obtain ⟨hm, g, rfl⟩ := hu
          rw [relV_inj (a := v) (b := .ref g) rv rfl]
          exact k g (by rw [← l1]; exact hm)
      refine ⟨_, rfl, r, CL, dx, _, _, rfl, e1, T.cl, T.nN, lnF_name _ _ _ _, rfl, _, rfl, ?_⟩
      by_cases hs : ∃ b, i = .st false b
      · obtain ⟨b, rfl⟩ := hs
        refine if_t (by decide +kernel : decide (V.str (S (Sf47.txt "ST")) = V.str (Str.ofString "ST")) = true) ?_
        have pr : Paired (fun r o => H r = some (.tup (opdV o))) rs [SlM.E (.inl b)] := pr
        cases pr with
        | @cons t _ _ _ pt _ =>
          refine ⟨_, rfl, r, CL, dx, _, _, rfl, e1, T.cl, T.nP, lnF_operands _ _ _ _, p, _, _, _, rfl, rfl, SqL.of e2, atI_nat (j := 0) rfl, t, _, _, _, rfl, rfl, SqT.of pt, atI_nat (j := 0) rfl, rfl, _, rfl, ?_⟩
          exact if_f (kind_W b) rest
      · exact if_f (l2 fun b e => hs ⟨b, e⟩) (iteF rest)
/-! ### place_of -/
def spPlace (CL : Addr) : Sp := fun vs H Q _ => ∃ (L : Lay) (pm : PM) (r : Addr) (lab : Option Bytes) (i : Sf47.Insn), vs = [.ref r, .ref (L.A 1)] ∧ LineAt CL H r (lab, some i) ∧ Mach L pm H ∧
  ∀ H' t cl ix, Same H H' → H t = none → H' t = some (.tup [cl, .int ix]) → (∀ x, opdOf i = some x → CellsAt L H' x cl ix) → (∀ q, cl = .ref q → (∃ j, j < 78 ∧ q = L.A j) ∨ H q = none) → Q (.ref t) H'
theorem sc_plc : FnScope ["line", "cells", "kind", "value"] ["line", "cells"] (defScope s_place_of) := ⟨rfl, rfl, rfl, by decide +kernel, rfl, by decide +kernel, by decide +kernel⟩
theorem ok_plc {f : Addr} {fd : FuncData} (F : Fun K "place_of" "place_of" s_place_of f fd) (T : LnTxt K mg CL fI fdI) (hl : mg "len" = none) : FnOk P w K mg base CX0 1 f fd ["line", "cells"] (spPlace CL) := by
  refine F.ok sc_plc (fun vs H Q E h => ?_) (fun cdv A outer s H vs Q E hr h => ?_)
  · obtain ⟨L, pm, r, lab, i, rfl, _⟩ := h
    rfl
  · have hu := hu_of hr
    refine ⟨_, pss_cons (ps_if (PW.pt (pw_or (pt_cmpR op_eq (pe_callB call_len_seq (by rfl) hl PySem.boot_len (pa_cons (pe_fld (pv 0) (by rfl)) pa_nil)) pe_int (nomark _)) (pw_or1 (pt_cmpR op_eq (pe_ix ix_tup (pe_ix ix_list (pe_fld (pv 0) (by rfl)) pe_int (fun _ _ => rfl)) pe_int (fun _ _ => rfl)) pe_str (nomark _)))))
        (pss_one (ps_ret (pe_tup (pa_cons pe_non (pa_cons pe_int pa_nil))))) pss_nil)
      (pss_cons (ps_set (i := 2) sc_plc.nd rfl (Or.inl rfl) (pe_ix ix_tup (pe_ix ix_list (pe_fld (pv 0) (by rfl)) pe_int (fun _ _ => rfl)) pe_int (fun _ _ => rfl)))
      (pss_cons (ps_set (i := 3) sc_plc.nd rfl (Or.inl rfl) (pe_ix ix_tup (pe_ix ix_list (pe_fld (pv 0) (by rfl)) pe_int (fun _ _ => rfl)) pe_int (fun _ _ => rfl)))
      (pss_cons (ps_if (pt_cmpR op_eq (pv 2) pe_str (nomark _)) (pss_one (ps_ret (pe_tup (pa_cons (pe_lst (pa_cons (pv 3) pa_nil)) (pa_cons pe_int pa_nil))))) pss_nil)
      (pss_one (ps_ret (pe_tup (pa_cons (pe_dget hu (pv 1) (pv 2) (fun _ _ => rfl)) (pa_cons (pv 3) pa_nil)))))))), ?_⟩
    obtain ⟨L, pm, r, lab, i, rfl, ⟨dx, p, e1, rs, e2, pr⟩, h, k⟩ := h
    have ln : rs.length = (insKV i).2.2.length := paired_len pr
    refine ⟨_, rfl, r, CL, dx, _, _, rfl, e1, T.cl, T.nP, lnF_operands _ _ _ _, p, _, rfl, .inl (SqL.of e2), rfl, _, rfl, ?_⟩
    rw [int_eq, List.length_map, ln]
    have none_ : (∀ x, opdOf i ≠ some x) → ∀ t, H t = none → Q (.ref t) (upd H t (.tup [.non, .int 0])) := fun hn t nt => k _ t _ _ (same_upd (Same.refl H) nt) nt upd_same (fun x hx => absurd hx (hn x)) (fun q e => by cases e)
    rcases op_first i with ⟨x, rr, ho, he, hj⟩ | ⟨ho, he, hj⟩ | ⟨kk, l, rfl⟩
    · have pr : Paired (fun r o => H r = some (.tup (opdV o))) rs (insKV i).2.2 := pr
      rw [he] at pr
      cases pr with
      | @cons t _ ts _ pt _ =>
        have pt : H t = some (.tup [.str (S (opKV x).1), .int (opKV x).2]) := pt

        refine if_f (decide_eq_false (by rw [he, List.length_cons]; omega)) ?_
        refine ⟨_, rfl, r, CL, dx, _, _, rfl, e1, T.cl, T.nP, lnF_operands _ _ _ _, p, _, _, _, rfl, rfl, SqL.of e2, atI_nat (j := 0) rfl, t, _, _, _, rfl, rfl, SqT.of pt, atI_nat (j := 0) rfl, rfl, _, rfl, ?_⟩
        refine if_f (kind_label x) ?_
        refine ⟨_, rfl, r, CL, dx, _, _, rfl, e1, T.cl, T.nP, lnF_operands _ _ _ _, p, _, _, _, rfl, rfl, SqL.of e2, atI_nat (j := 0) rfl, t, _, _, _, rfl, rfl, SqT.of pt, atI_nat (j := 0) rfl, ?_⟩
        refine ⟨_, rfl, r, CL, dx, _, _, rfl, e1, T.cl, T.nP, lnF_operands _ _ _ _, p, _, _, _, rfl, rfl, SqL.of e2, atI_nat (j := 0) rfl, t, _, _, _, rfl, rfl, SqT.of pt, atI_nat (j := 1) rfl, ?_⟩
        refine ⟨_, rfl, rfl, _, rfl, ?_⟩
        by_cases hz : ∃ z, x = .inr (.lit z)
        · obtain ⟨z, rfl⟩ := hz
          refine if_t (by decide +kernel : decide (V.str (S (Sf47.txt "number")) = V.str (Str.ofString "number")) = true) ?_
          refine ⟨_, rfl, (by show 1 ≤ sizeLine; decide), fun q nq => ⟨(by show 2 ≤ sizeLine; decide), fun t2 nt2 => ?_⟩⟩
          have nq2 : q ≠ t2 := fun e => by rw [← e, upd_same] at nt2; cases nt2
          have nt : H t2 = none := by rw [upd_ne (Ne.symm nq2)] at nt2; exact nt2
          refine k _ t2 _ _ (same_upd (same_upd (Same.refl H) nq) nt) nt upd_same (fun y hy => ?_) (fun q' e => by cases e; exact .inr nq)
          rw [ho] at hy
          cases hy
          exact ⟨rfl, q, rfl, by rw [upd_ne nq2]; exact upd_same, h.out nq⟩
        · have hz : ∀ z, x ≠ .inr (.lit z) := fun z e => hz ⟨z, e⟩
          obtain ⟨c1, c2⟩ := kind_cells L x hz
          refine if_f c1 ?_
          refine ⟨_, rfl, _, rfl, L.A 1, _, rfl, h.cells c2, _, rfl, (by show 2 ≤ sizeLine; decide), fun t2 nt2 => ?_⟩
          refine k _ t2 _ _ (same_upd (Same.refl H) nt2) nt2 upd_same (fun y hy => ?_) (fun q' e => by cases e; exact .inl ⟨cellIx x, cell_lt x, rfl⟩)
          rw [ho] at hy
          cases hy
          rcases x with b | (n | n | n | z)
          · cases b <;> exact ⟨rfl, rfl⟩
          · exact ⟨rfl, rfl⟩
          · exact ⟨rfl, rfl⟩
          · exact ⟨rfl, rfl⟩
          · exact absurd rfl (hz z)
    · refine if_t (decide_eq_true (by rw [he]; rfl)) (iteT ⟨(by show 2 ≤ sizeLine; decide), none_ fun x e => by rw [ho] at e; cases e⟩)
    · refine if_f (decide_eq_false (by show ¬ ((1 : Nat) : Int) = 0; omega)) ?_
      have pr : Paired (fun r o => H r = some (.tup (opdV o))) rs [(Sf47.txt "label", .inl l)] := pr
      cases pr with
      | @cons t _ ts _ pt _ =>
        refine ⟨_, rfl, r, CL, dx, _, _, rfl, e1, T.cl, T.nP, lnF_operands _ _ _ _, p, _, _, _, rfl, rfl, SqL.of e2, atI_nat (j := 0) rfl, t, _, _, _, rfl, rfl, SqT.of pt, atI_nat (j := 0) rfl, rfl, _, rfl, ?_⟩
        exact if_t (by decide +kernel) ⟨(by show 2 ≤ sizeLine; decide), none_ fun x e => by cases e⟩
/-! ### limit_of -/
def spLimit (CL : Addr) : Sp := fun vs H Q _ => ∃ (r : Addr) (lab : Option Bytes) (i : Sf47.Insn), vs = [.ref r] ∧ LineAt CL H r (lab, some i) ∧ Q (.int (limOf i)) H
theorem sc_lim : FnScope ["line"] ["line"] (defScope s_limit_of) := ⟨rfl, rfl, rfl, by decide +kernel, rfl, by decide +kernel, by decide +kernel⟩
theorem ok_lim {f : Addr} {fd : FuncData} (F : Fun K "limit_of" "limit_of" s_limit_of f fd) (T : LnTxt K mg CL fI fdI) (hl : mg "len" = none) : FnOk P w K mg base CX0 1 f fd ["line"] (spLimit CL) := by
  refine F.ok sc_lim (fun vs H Q E h => ?_) (fun cdv A outer s H vs Q E hr h => ?_)
  · obtain ⟨r, lab, i, rfl, _⟩ := h
    rfl
  · refine ⟨_, pss_one (ps_ret (pe_ifExp (pt_cmpR op_gt (pe_callB call_len_seq (by rfl) hl PySem.boot_len (pa_cons (pe_fld (pv 0) (by rfl)) pa_nil)) pe_int (nomark _)) (pe_ix ix_tup (pe_ix ix_list (pe_fld (pv 0) (by rfl)) pe_int (fun _ _ => rfl)) pe_int (fun _ _ => rfl)) pe_int)), ?_⟩
    obtain ⟨r, lab, i, rfl, ⟨dx, p, e1, rs, e2, pr⟩, k⟩ := h
    have ln : rs.length = (insKV i).2.2.length := paired_len pr
    refine ⟨_, rfl, r, CL, dx, _, _, rfl, e1, T.cl, T.nP, lnF_operands _ _ _ _, p, _, rfl, .inl (SqL.of e2), _, _, rfl, rfl, _, rfl, ?_⟩
    rw [List.length_map, ln]
    rcases op_limit i with ⟨h1, h2⟩ | ⟨a, z, h1, h2⟩
    · rw [h2] at k
      exact if_f (decide_eq_false (by omega)) k
    · have pr : Paired (fun r o => H r = some (.tup (opdV o))) rs (insKV i).2.2 := pr
      rw [h1] at pr ⊢
      rw [h2] at k
      refine if_t (by decide : decide ((1 : Int) < ((2 : Nat) : Int)) = true) ?_
      cases pr with
      | @cons t _ ts _ _ pr2 =>
        cases pr2 with
        | @cons t2 _ _ _ pt2 _ =>
          exact ⟨_, rfl, r, CL, dx, _, _, rfl, e1, T.cl, T.nP, lnF_operands _ _ _ _, p, _, _, _, rfl, rfl, SqL.of e2, atI_nat (j := 1) rfl, t2, _, _, _, rfl, rfl, SqT.of pt2, atI_nat (j := 1) rfl, k⟩
end
end Sl
set_option Elab.async false
set_option linter.all false
set_option maxRecDepth 100000
set_option maxHeartbeats 4000000
namespace Sl
open PySem PySem.Spec PyProof.Rows L2 SlM
/-! ### where labels stand -/
def placeL (L : List (Bytes × Nat × Nat)) (x : Bytes) : Option Nat := (L.find? fun y => y.1 == x).map fun y => y.2.1
theorem place_app (L M : List (Bytes × Nat × Nat)) (x : Bytes) : placeL (L ++ M) x = (placeL L x).or (placeL M x) := by
  unfold placeL
  rw [List.find?_append]
  cases L.find? fun y => y.1 == x <;> rfl
theorem placeL_none {L : List (Bytes × Nat × Nat)} {x : Bytes} (h : x ∉ L.map (·.1)) : placeL L x = none := by
  unfold placeL
  rw [Option.map_eq_none_iff, List.find?_eq_none]
  intro y hy e
  exact h (List.mem_map.mpr ⟨y, hy, by simpa using e⟩)
/-- a dict that has every label's place -/
def HasP (kvs : List (Key × V)) (L : List (Bytes × Nat × Nat)) : Prop := ∀ x : Bytes, L2.valV kvs (Sum.inr (S x)) = (placeL L x).map fun n => .int (n : Int)
theorem hasP_put {kvs : List (Key × V)} {L : List (Bytes × Nat × Nat)} (h : HasP kvs L) {x : Bytes} {n k : Nat} (hn : x ∉ L.map (·.1)) : HasP (putK kvs (Sum.inr (S x)) (.int (n : Int))) (L ++ [(x, n, k)]) := fun y => by
  rw [valV_put, place_app]
  by_cases e : y = x
  · subst e
    rw [if_pos rfl, placeL_none hn]
    show _ = Option.map _ (placeL [(y, n, k)] y)
    unfold placeL
    rw [List.find?_cons, show ((y, n, k).1 == y) = true from beq_self_eq_true y]
    rfl
  · rw [if_neg (fun z => e (S_inj (Sum.inr.inj z))), h y]
    have e2 : placeL [(x, n, k)] y = none := placeL_none (by simp; exact e)
    rw [e2, Option.or_none]
theorem labs_take {pls : List PLine} {i : Nat} {pl : PLine} (h : pls[i]? = some pl) : labsOf 1 0 (pls.take (i + 1)) = labsOf 1 0 (pls.take i) ++ (match pl.1 with | some w => [(w, (codeOf 1 (pls.take i)).length, i + 1)] | none => []) ∧
    codeOf 1 (pls.take (i + 1)) = codeOf 1 (pls.take i) ++ (match pl.2 with | some j => [(i + 1, j)] | none => []) := by
  have hi : i < pls.length := (List.getElem?_eq_some_iff.mp h).1
  have ln : (pls.take i).length = i := by rw [List.length_take]; omega
  rw [List.take_succ, h]
  constructor
  · show labsOf 1 0 (pls.take i ++ [pl]) = _
    rw [labs_snoc, ln, Nat.zero_add, Nat.add_comm 1 i]
    try rfl
  · show codeOf 1 (pls.take i ++ [pl]) = _
    rw [code_snoc, ln, Nat.add_comm 1 i]
    try rfl
theorem name_non (i : Option Sf47.Insn) : decide (nameV i = V.non) = i.isNone := by
  cases i with
  | none => rfl
  | some j => exact decide_eq_false (by intro z; cases z)
section
variable {P : Program} {w : World} {K : PySem.W.Frag} {mg : Str → Option Value} {base : Heap} {CL CS fI fS : Addr} {fdI fdS : FuncData}
/-! ### targets_of -/
def spTgs (CL : Addr) : Sp := fun vs H Q _ => ∃ (a : Addr) (pls : List PLine), vs = [.ref a] ∧ LinesAt CL H a pls ∧ pls.length ≤ 70000 ∧ (∀ j, j < pls.length → ¬ Bad pls j) ∧ ∀ H' d kvs, Same H H' → H d = none → H' d = some (.dK kvs) → HasP kvs (labsOf 1 0 pls) → Q (.ref d) H'
theorem sc_tgs : FnScope ["lines", "targets", "at", "line"] ["lines"] (defScope s_targets_of) := ⟨rfl, rfl, rfl, by decide +kernel, rfl, by decide +kernel, by decide +kernel⟩
theorem ok_tgs {f : Addr} {fd : FuncData} (F : Fun K "targets_of" "targets_of" s_targets_of f fd) (T : LnTxt K mg CL fI fdI) : FnOk P w K mg base CX0 1 f fd ["lines"] (spTgs CL) := by
  refine F.ok sc_tgs (fun vs H Q E h => ?_) (fun cdv A outer s H vs Q E hr h => ?_)
  · obtain ⟨a, pls, rfl, _⟩ := h
    rfl
  · have hu := hu_of hr
    refine ⟨_, pss_cons (ps_set (i := 1) sc_tgs.nd rfl (Or.inl rfl) pe_dnewK)
      (pss_cons (ps_set (i := 2) sc_tgs.nd rfl (Or.inl rfl) pe_int)
      (pss_cons (ps_for PassesOwn.never rfl (pi_list (pv 0)) (pg_name (i := 3) sc_tgs.nd rfl (Or.inl rfl))
        (C8.pss_cut (ps_if (pt_cmpR op_notN (pe_fld (pv 3) (by rfl)) pe_non (nomark _)) (pss_one (ps_dput hu (pv 1) (pe_fld (pv 3) (by rfl)) (pv 2) rfl)) pss_nil)
        (pss_one (ps_if (pt_cmpR op_notN (pe_fld (pv 3) (by rfl)) pe_non (nomark _)) (pss_one (ps_aug (i := 2) sc_tgs.nd rfl (Or.inl rfl) pe_int ip_add)) pss_nil))))
      (pss_one (ps_ret (pv 1))))), ?_⟩
    obtain ⟨a, pls, rfl, hL, hl, hb, q⟩ := h
    intro d nd
    obtain ⟨rs, h1, h2⟩ := id hL
    have sd : ∀ o, Same H (upd H d o) := fun o x ob e => by rw [upd_ne (ne_of_none e nd)]; exact e
    have ln := paired_len h2
    refine ⟨_, rfl, a, rfl, ⟨_, (sd _).seq (SqL.of h1)⟩, ?_⟩
    refine for_list (K := K) (a := a) (xs := rs.map V.ref) (fun i σ H' => ∃ (v : Option V) (kvs : List (Key × V)), σ = [some (.ref a), some (.ref d), some (.int ((codeOf 1 (pls.take i)).length : Nat)), v] ∧ H' = upd H d (.dK kvs) ∧ kvs.length ≤ i ∧ HasP kvs (labsOf 1 0 (pls.take i)))
      ⟨none, [], rfl, rfl, Nat.le_refl _, fun x => rfl⟩ ?_ ?_ ?_
    · rintro i σ H' _ ⟨v, kvs, rfl, rfl, _⟩
      exact (sd _).seq (SqL.of h1)
    · rintro i x σ H' hx ⟨v, kvs, rfl, rfl, hk, hh⟩
      rw [List.getElem?_map] at hx
      obtain ⟨r, hr', rfl⟩ := Option.map_eq_some_iff.mp hx
      obtain ⟨pl, hp, la⟩ := paired_at h2 hr'
      have hi : i < pls.length := (List.getElem?_eq_some_iff.mp hp).1
      obtain ⟨e_l, e_c⟩ := labs_take hp
      refine ⟨fun σ' H' => σ' = [some (.ref a), some (.ref d), some (.int ((codeOf 1 (pls.take i)).length : Nat)), some (.ref r)] ∧ ∃ kvs', H' = upd H d (.dK kvs') ∧ kvs'.length ≤ i + 1 ∧ HasP kvs' (labsOf 1 0 (pls.take (i + 1))), ?_, ?_⟩
      · obtain ⟨dx, p, e1, _⟩ := line_same (sd (.dK kvs)) la
        refine ⟨_, rfl, r, CL, dx, _, _, rfl, e1, T.cl, T.nL, lnF_label _ _ _ _, rfl, _, rfl, ?_⟩
        rw [lab_non]
        cases hlab : pl.1 with
        | none =>
          rw [hlab, List.append_nil] at e_l
          refine iteF ⟨rfl, kvs, rfl, Nat.le_succ_of_le hk, ?_⟩
          rw [e_l]
          exact hh
        | some wd =>
          rw [hlab] at e_l e1
          have nw : wd ∉ (labsOf 1 0 (pls.take i)).map (·.1) := by
            rw [labs_names]
            intro hm
            refine hb i hi ⟨pl.1, pl.2, hp, .inl ⟨wd, hlab, hm⟩⟩
          refine iteT ⟨_, rfl, _, rfl, _, rfl, r, CL, dx, _, _, rfl, e1, T.cl, T.nL, lnF_label _ _ _ _, d, _, rfl, DPut.k (k := Sum.inr (S wd)) upd_same (Nat.lt_of_le_of_lt hk (Nat.lt_of_lt_of_le hi (Nat.le_trans hl (by decide)))), ?_⟩
          refine ⟨rfl, _, upd_upd, Nat.le_trans put_len (Nat.succ_le_succ hk), ?_⟩
          rw [e_l]
          exact hasP_put hh nw
      · rintro σ' H' ⟨rfl, kvs', rfl, hk', hh'⟩
        obtain ⟨dx, p, e1, _⟩ := line_same (sd (.dK kvs')) la
        refine ⟨_, rfl, r, CL, dx, _, _, rfl, e1, T.cl, T.nN, lnF_name _ _ _ _, rfl, _, rfl, ?_⟩
        rw [e_c, name_non]
        cases hi2 : pl.2 with
        | none =>
          refine iteF ⟨some (.ref r), kvs', ?_, rfl, hk', hh'⟩
          rw [List.append_nil]
        | some j =>
          refine iteT ⟨_, rfl, _, _, rfl, rfl, some (.ref r), kvs', ?_, rfl, hk', hh'⟩
          rw [List.length_append]
          rfl
    · rintro σ H' ⟨v, kvs, rfl, rfl, hk, hh⟩
      rw [List.length_map, ln, List.take_length] at hh
      exact ⟨_, rfl, q _ d kvs (sd _) nd upd_same hh⟩
/-! ### target_of -/
def spTgt (CL : Addr) : Sp := fun vs H Q _ => ∃ (r d : Addr) (lab : Option Bytes) (i : Sf47.Insn) (p : Sf47.Prog) (kvs : List (Key × V)), vs = [.ref r, .ref d, .int (p.code.length : Nat)] ∧ LineAt CL H r (lab, some i) ∧ H d = some (.dK kvs) ∧ HasP kvs p.labels ∧ (∀ k l, i = .jmp k l → (p.place l).isSome = true) ∧ Q (.int (tgtOf p i : Nat)) H
theorem sc_tgt : FnScope ["line", "targets", "end"] ["line", "targets", "end"] (defScope s_target_of) := ⟨rfl, rfl, rfl, by decide +kernel, rfl, by decide +kernel, by decide +kernel⟩
theorem ok_tgt {f : Addr} {fd : FuncData} (F : Fun K "target_of" "target_of" s_target_of f fd) (T : LnTxt K mg CL fI fdI) (hl : mg "len" = none) : FnOk P w K mg base CX0 1 f fd ["line", "targets", "end"] (spTgt CL) := by
  refine F.ok sc_tgt (fun vs H Q E h => ?_) (fun cdv A outer s H vs Q E hr h => ?_)
  · obtain ⟨r, d, lab, i, p, kvs, rfl, _⟩ := h
    rfl
  · have hu := hu_of hr
    refine ⟨_, pss_cons (ps_if (PW.pt (pw_and (pt_cmpR op_gt (pe_callB call_len_seq (by rfl) hl PySem.boot_len (pa_cons (pe_fld (pv 0) (by rfl)) pa_nil)) pe_int (nomark _)) (pw_and1 (pt_cmpR op_eq (pe_ix ix_tup (pe_ix ix_list (pe_fld (pv 0) (by rfl)) pe_int (fun _ _ => rfl)) pe_int (fun _ _ => rfl)) pe_str (nomark _)))))
        (pss_one (ps_ret (pe_dget hu (pv 1) (pe_ix ix_tup (pe_ix ix_list (pe_fld (pv 0) (by rfl)) pe_int (fun _ _ => rfl)) pe_int (fun _ _ => rfl)) (fun _ _ => rfl)))) pss_nil)
      (pss_one (ps_ret (pv 2))), ?_⟩
    obtain ⟨r, d, lab, i, pg, kvs, rfl, ⟨dx, p, e1, rs, e2, pr⟩, hd, hh, hj, k⟩ := h
    have ln : rs.length = (insKV i).2.2.length := paired_len pr
    refine ⟨_, rfl, r, CL, dx, _, _, rfl, e1, T.cl, T.nP, lnF_operands _ _ _ _, p, _, rfl, .inl (SqL.of e2), _, _, rfl, rfl, _, rfl, ?_⟩
    rw [List.length_map, ln]
    have plain : (∀ k l, i ≠ .jmp k l) → Q (.int (pg.code.length : Nat)) H := fun hn => by
      cases i with
      | jmp k' l' => exact absurd rfl (hn k' l')
      | _ => exact k
    rcases op_first i with ⟨x, rr, ho, he, hn⟩ | ⟨ho, he, hn⟩ | ⟨kk, l, rfl⟩
    · have pr : Paired (fun r o => H r = some (.tup (opdV o))) rs (insKV i).2.2 := pr
      rw [he] at pr
      cases pr with
      | @cons t _ ts _ pt _ =>
        have pt : H t = some (.tup [.str (S (opKV x).1), .int (opKV x).2]) := pt
        refine if_t (decide_eq_true (by rw [he, List.length_cons]; omega)) ?_
        refine ⟨_, rfl, r, CL, dx, _, _, rfl, e1, T.cl, T.nP, lnF_operands _ _ _ _, p, _, _, _, rfl, rfl, SqL.of e2, atI_nat (j := 0) rfl, t, _, _, _, rfl, rfl, SqT.of pt, atI_nat (j := 0) rfl, rfl, _, rfl, ?_⟩
        exact if_f (kind_label x) ⟨_, rfl, plain hn⟩
    · exact if_f (decide_eq_false (by rw [he]; decide)) (iteF ⟨_, rfl, plain hn⟩)
    · refine if_t (by decide : decide ((0 : Int) < ((1 : Nat) : Int)) = true) ?_
      have pr : Paired (fun r o => H r = some (.tup (opdV o))) rs [(Sf47.txt "label", .inl l)] := pr
      cases pr with
      | @cons t _ ts _ pt _ =>
        have pt : H t = some (.tup [.str (S (Sf47.txt "label")), .str (S l)]) := pt
        refine ⟨_, rfl, r, CL, dx, _, _, rfl, e1, T.cl, T.nP, lnF_operands _ _ _ _, p, _, _, _, rfl, rfl, SqL.of e2, atI_nat (j := 0) rfl, t, _, _, _, rfl, rfl, SqT.of pt, atI_nat (j := 0) rfl, rfl, _, rfl, ?_⟩
        refine if_t (by decide +kernel : decide (V.str (S (Sf47.txt "label")) = V.str (Str.ofString "label")) = true) ?_
        have hs := hj kk l rfl
        have hv : L2.valV kvs (Sum.inr (S l) : Key) = some (.int ((pg.place l).getD 0 : Nat)) := by
          rw [hh l]
          have e : placeL pg.labels l = pg.place l := rfl
          rw [e]
          cases q : pg.place l with
          | none => rw [q] at hs; cases hs
          | some n => rfl
        refine ⟨_, rfl, _, rfl, r, CL, dx, _, _, rfl, e1, T.cl, T.nP, lnF_operands _ _ _ _, p, _, _, _, rfl, rfl, SqL.of e2, atI_nat (j := 0) rfl, t, _, _, _, rfl, rfl, SqT.of pt, atI_nat (j := 1) rfl, d, _, rfl, ?_, k⟩
        have z := DGet.k (k := (Sum.inr (S l) : Key)) hd
        rw [hv] at z
        exact z
/-! ### Step -/
def spStI (CS : Addr) : Sp := fun vs H Q _ => ∃ (p dx t : Addr) (ln nm act cl ix lim tg : V), vs = [.ref p, ln, nm, act, .ref t, lim, tg] ∧ H p = some (.ins CS dx []) ∧ H t = some (.tup [cl, ix]) ∧ ∀ H', Obj1 H H' p (.ins CS dx (stF ln nm act cl ix lim tg)) → Q .non H'
theorem sc_sti : FnScope ["self", "line", "name", "action", "place", "limit", "target"] ["self", "line", "name", "action", "place", "limit", "target"] (defScope s_step_init) := ⟨rfl, rfl, rfl, by decide +kernel, rfl, by decide +kernel, by decide +kernel⟩
theorem ok_sti (T : STxt K mg CS fS fdS) : FnOk P w K mg base CX0 1 fS fdS ["self", "line", "name", "action", "place", "limit", "target"] (spStI CS) := by
  refine T.fi.ok sc_sti (fun vs H Q E h => ?_) (fun cdv A outer s H vs Q E hr h => ?_)
  · obtain ⟨p, dx, t, ln, nm, act, cl, ix, lim, tg, rfl, _⟩ := h
    rfl
  · refine ⟨_, pss_cons (ps_fld (pv 0) (pv 1) rfl) (pss_cons (ps_fld (pv 0) (pv 2) rfl) (pss_cons (ps_fld (pv 0) (pv 3) rfl) (pss_cons (ps_fld (pv 0) (pe_ix ix_tup (pv 4) pe_int (fun _ _ => rfl)) rfl) (pss_cons (ps_fld (pv 0) (pe_ix ix_tup (pv 4) pe_int (fun _ _ => rfl)) rfl) (pss_cons (ps_fld (pv 0) (pv 5) rfl) (pss_one (ps_fld (pv 0) (pv 6) rfl))))))), ?_⟩
    obtain ⟨p, dx, t, ln, nm, act, cl, ix, lim, tg, rfl, hp, ht, k⟩ := h
    have ne : t ≠ p := fun z => by rw [z, hp] at ht; cases ht
    refine ⟨_, rfl, _, rfl, p, CS, dx, [], rfl, hp, T.cl, T.nL, (by show 0 < 1000; decide), ?_⟩
    refine ⟨_, rfl, _, rfl, p, CS, dx, _, rfl, upd_same, T.cl, T.nN, (by show 1 < 1000; decide), ?_⟩
    refine ⟨_, rfl, _, rfl, p, CS, dx, _, rfl, upd_same, T.cl, T.nA, (by show 2 < 1000; decide), ?_⟩
    refine ⟨_, rfl, t, _, _, _, rfl, rfl, SqT.of (by rw [upd_ne ne, upd_ne ne, upd_ne ne]; exact ht), atI_nat (j := 0) rfl, _, rfl, p, CS, dx, _, rfl, upd_same, T.cl, T.nC, (by show 3 < 1000; decide), ?_⟩
    refine ⟨_, rfl, t, _, _, _, rfl, rfl, SqT.of (by rw [upd_ne ne, upd_ne ne, upd_ne ne, upd_ne ne]; exact ht), atI_nat (j := 1) rfl, _, rfl, p, CS, dx, _, rfl, upd_same, T.cl, T.nI, (by show 4 < 1000; decide), ?_⟩
    refine ⟨_, rfl, _, rfl, p, CS, dx, _, rfl, upd_same, T.cl, T.nM, (by show 5 < 1000; decide), ?_⟩
    refine ⟨_, rfl, _, rfl, p, CS, dx, _, rfl, upd_same, T.cl, T.nT, (by show 6 < 1000; decide), ?_⟩
    exact k _ ((((((Obj1.of.put rfl).put rfl).put rfl).put rfl).put rfl).put (congrArg (HO.ins CS dx) (st_new ln nm act cl ix lim tg)))
theorem b_sti (T : STxt K mg CS fS fdS) : Binds K fdS ["self", "line", "name", "action", "place", "limit", "target"] [] := T.fi.binds fun _ _ _ _ _ _ us hl => match us, hl with | [_, _, _, _, _, _, _], _ => rfl
end
end Sl
set_option Elab.async false
set_option linter.all false
set_option maxRecDepth 100000
set_option maxHeartbeats 4000000
namespace Sl
open PySem PySem.Spec PyProof.Rows L2 SlM
/-- a step whose list of cells is not the one at sl -/
def StepC (CS : Addr) (mg : Str → Option Value) (L : Lay) (p : Sf47.Prog) (H : Hp) (sl st : Addr) (x : Nat × Sf47.Insn) : Prop :=
  ∃ (f ds : Addr) (cl : V) (ix : Int), mg (actFn x.2) = some (.ref f) ∧ H st = some (.ins CS ds (stF (.int x.1) (.str (S (insKV x.2).1)) (.ref f) cl (.int ix) (.int (limOf x.2)) (.int (tgtOf p x.2)))) ∧ (∀ y, opdOf x.2 = some y → CellsAt L H y cl ix) ∧ (∀ j, j < 78 → st ≠ L.A j) ∧ cl ≠ .ref sl
theorem StepC.same {CS : Addr} {mg : Str → Option Value} {L : Lay} {p : Sf47.Prog} {H H' : Hp} {sl st : Addr} {x : Nat × Sf47.Insn} (h : StepC CS mg L p H sl st x) (s : Same H H') : StepC CS mg L p H' sl st x := by
  obtain ⟨f, ds, cl, ix, h1, h2, h3, h4, h5⟩ := h
  exact ⟨f, ds, cl, ix, h1, s _ _ h2, fun y hy => (h3 y hy).frame (Frame.of_same s), h4, h5⟩
theorem StepC.put {CS : Addr} {mg : Str → Option Value} {L : Lay} {p : Sf47.Prog} {H : Hp} {sl st : Addr} {x : Nat × Sf47.Insn} {l l' : List V} (h : StepC CS mg L p H sl st x) (e : H sl = some (.lst l)) : StepC CS mg L p (upd H sl (.lst l')) sl st x := by
  obtain ⟨f, ds, cl, ix, h1, h2, h3, h4, h5⟩ := h
  have n1 : st ≠ sl := fun z => by rw [z, e] at h2; cases h2
  refine ⟨f, ds, cl, ix, h1, by rw [upd_ne n1]; exact h2, fun y hy => ?_, h4, h5⟩
  have c := h3 y hy
  rcases y with b | (n | n | n | z)
  · cases b <;> exact c
  · exact c
  · exact c
  · exact c
  · obtain ⟨c1, q, c2, c3, c4⟩ := c
    have n2 : q ≠ sl := fun z => h5 (by rw [c2, z])
    exact ⟨c1, q, c2, by rw [upd_ne n2]; exact c3, c4⟩
theorem Mach.putO {L : Lay} {pm : PM} {H : Hp} {sl : Addr} {o : HO} (h : Mach L pm H) (n : ∀ j, j < 78 → sl ≠ L.A j) : Mach L pm (upd H sl o) := fun j hj => by rw [upd_ne (Ne.symm (n j hj))]; exact h j hj
section
variable {P : Program} {w : World} {K : PySem.W.Frag} {mg : Str → Option Value} {base : Heap} {CL CS fI fS : Addr} {fdI fdS : FuncData}
def spSteps (CL CS : Addr) (mg : Str → Option Value) : Sp := fun vs H Q _ => ∃ (L : Lay) (pm : PM) (a : Addr) (pls : List PLine), vs = [.ref a, .ref (L.A 1)] ∧ LinesAt CL H a pls ∧ pls.length ≤ 70000 ∧ (∀ j, j < pls.length → ¬ Bad pls j) ∧ Mach L pm H ∧
  ∀ H' sl ss, Same H H' → H sl = none → H' sl = some (.lst (ss.map V.ref)) → (∀ j, j < 78 → sl ≠ L.A j) → Paired (fun st x => StepC CS mg L (prog pls 0) H' sl st x) ss (codeOf 1 pls) → Q (.ref sl) H'
theorem sc_sts : FnScope ["lines", "cells", "targets", "end", "steps", "number", "line", "place", "target"] ["lines", "cells"] (defScope s_steps_of) := ⟨rfl, rfl, rfl, by decide +kernel, rfl, by decide +kernel, by decide +kernel⟩
theorem ok_sts {f : Addr} {fd : FuncData} (F : Fun K "steps_of" "steps_of" s_steps_of f fd) (T : LnTxt K mg CL fI fdI) (TS : STxt K mg CS fS fdS) (hl : mg "len" = none) (he : mg "enumerate" = none) (hact : ∀ i : Sf47.Insn, ∃ g, mg (actFn i) = some (.ref g))
    (G : Df P w K mg base CX0 1 "targets_of" ["lines"] (spTgs CL)) (C : Df P w K mg base CX0 1 "place_of" ["line", "cells"] (spPlace CL)) (R : Df P w K mg base CX0 1 "target_of" ["line", "targets", "end"] (spTgt CL)) (O : Df P w K mg base CX0 1 "action_of" ["line"] (spActOf CL mg)) (M : Df P w K mg base CX0 1 "limit_of" ["line"] (spLimit CL)) :
    FnOk P w K mg base CX0 3 f fd ["lines", "cells"] (spSteps CL CS mg) := by
  obtain ⟨fG, fdG, mG, kG, bG, FG⟩ := G
  obtain ⟨fC, fdC, mC, kC, bC, FC⟩ := C
  obtain ⟨fR, fdR, mR, kR, bR, FR⟩ := R
  obtain ⟨fO, fdO, mO, kO, bO, FO⟩ := O
  obtain ⟨fM, fdM, mM, kM, bM, FM⟩ := M
  refine F.ok sc_sts (fun vs H Q E h => ?_) (fun cdv A outer s H vs Q E hr h => ?_)
  · obtain ⟨L, pm, a, pls, rfl, _⟩ := h
    rfl
  · have hu := hu_of hr
    have hr1 : Room 1 _ := hr.mono (by decide)
    refine ⟨_, pss_cons (ps_set (i := 2) sc_sts.nd rfl (Or.inl rfl) (pe_call FG hr1 (by rfl) mG kG bG .nil pass0 (pa_cons (pv 0) pa_nil)))
      (pss_cons (ps_set (i := 3) sc_sts.nd rfl (Or.inl rfl) (pe_callB call_len_seq (by rfl) hl PySem.boot_len (pa_cons (pe_lc (own := [("line", 6)]) (g := gName 6) (tt := tTest (tOp (fun x y H Q => y = .non ∧ Q (.bl (!decide (x = .non))) H) (tFld K (tVar 6) "name") (L2.tC .non))) (te := tVar 6) rfl sc_sts.nd (pi_list (pv 0)) (blkOk_by (own := [("line", 6)]) (N := ["lines", "cells", "targets", "end", "steps", "number", "line", "place", "target"]) (sc := defScope s_steps_of) (by decide +kernel))
          (fun _ _ _ _ _ => pg_name (i := 6) sc_sts.nd rfl (Or.inl rfl)) (fun _ _ _ _ _ => pts_one (pt_cmpR op_notN (pe_fld (pv 6) (by rfl)) pe_non (nomark _))) (fun _ _ _ _ _ => pv 6)) pa_nil)))
      (pss_cons (ps_set (i := 4) sc_sts.nd rfl (Or.inl rfl) (pe_lst pa_nil))
      (pss_cons (ps_for PassesOwn.never rfl (pi_enumK (by decide) (by decide) (by rfl) he (pa_cons (pv 0) pa_nil)) (pg_tup rfl (pgs_cons (pg_name (i := 5) sc_sts.nd rfl (Or.inl rfl)) (pgs_cons (pg_name (i := 6) sc_sts.nd rfl (Or.inl rfl)) pgs_nil)))
        (pss_one (ps_if (pt_cmpR op_notN (pe_fld (pv 6) (by rfl)) pe_non (nomark _))
          (pss_cons (ps_set (i := 7) sc_sts.nd rfl (Or.inl rfl) (pe_call FC hr1 (by rfl) mC kC bC .nil pass0 (pa_cons (pv 6) (pa_cons (pv 1) pa_nil))))
          (pss_cons (ps_set (i := 8) sc_sts.nd rfl (Or.inl rfl) (pe_call FR hr1 (by rfl) mR kR bR .nil pass0 (pa_cons (pv 6) (pa_cons (pv 2) (pa_cons (pv 3) pa_nil)))))
          (pss_one (ps_expr (pe_bm PySem.F.plainAttrs_list PySem.F.slot_list_append PySem.F.type_list_append mt_append (pv 4) (pa_cons
            (pe_make TS.mkC (ok_sti TS) hr rfl TS.gC (b_sti TS) .nil pass0 (pa_cons (pv 5) (pa_cons (pe_fld (pv 6) (by rfl)) (pa_cons (pe_call FO hr1 (by rfl) mO kO bO .nil pass0 (pa_cons (pv 6) pa_nil)) (pa_cons (pv 7) (pa_cons (pe_call FM hr1 (by rfl) mM kM bM .nil pass0 (pa_cons (pv 6) pa_nil)) (pa_cons (pv 8) pa_nil)))))))
            pa_nil)))))) pss_nil)))
      (pss_one (ps_ret (pv 4)))))), ?_⟩
    obtain ⟨L, pm, a, pls, rfl, hL, hln, hb, hM, q⟩ := h
    obtain ⟨rs, h1, h2⟩ := id hL
    have ln := paired_len h2
    refine ⟨_, rfl, a, pls, rfl, hL, Nat.le_trans hln (by decide), hb, fun H1 d kvs s1 nd ed hp => ?_⟩
    have L1 := lines_same s1 hL
    have sq1 : SqL K H1 a (rs.map V.ref) := SqL.of (s1 _ _ h1)
    refine ⟨_, rfl, a, rfl, ⟨_, sq1⟩, fun D nD => ?_⟩
    have sD : ∀ o, Same H1 (upd H1 D o) := fun o => same_upd (Same.refl H1) nD
    refine lc_list (K := K) (a := a) (xs := rs.map V.ref) (fun i H' => ∃ acc : List V, H' = upd H1 D (.lst acc) ∧ acc.length = (codeOf 1 (pls.take i)).length ∧ acc.length ≤ i) ⟨[], rfl, rfl, Nat.le_refl _⟩ ?_ ?_ ?_
    · rintro i H' _ ⟨acc, rfl, _⟩
      exact (sD _).seq sq1
    · rintro i x H' hx ⟨acc, rfl, ha, hai⟩
      rw [List.getElem?_map] at hx
      obtain ⟨r, hr', rfl⟩ := Option.map_eq_some_iff.mp hx
      obtain ⟨pl, hpl, la⟩ := paired_at h2 hr'
      have hi : i < pls.length := (List.getElem?_eq_some_iff.mp hpl).1
      obtain ⟨dx, p, e1, _⟩ := line_same (s1.trans (sD (.lst acc))) la
      have e_c := (labs_take hpl).2
      refine ⟨rfl, _, rfl, r, CL, dx, _, _, rfl, e1, T.cl, T.nN, lnF_name _ _ _ _, rfl, _, rfl, ?_⟩
      rw [name_non]
      cases hi2 : pl.2 with
      | none =>
        rw [hi2, List.append_nil] at e_c
        exact iteF ⟨acc, rfl, by rw [e_c]; exact ha, Nat.le_succ_of_le hai⟩
      | some j =>
        rw [hi2] at e_c
        refine iteT ⟨_, rfl, acc, upd_same, Nat.lt_of_le_of_lt hai (Nat.lt_of_lt_of_le hi (Nat.le_trans hln (by decide))), acc ++ [.ref r], upd_upd, ?_, ?_⟩
        · rw [e_c, List.length_append, List.length_append, ha]
          rfl
        · rw [List.length_append]
          exact Nat.succ_le_succ hai
    · rintro H2 ⟨acc, rfl, ha, hai⟩
      rw [List.length_map, ln, List.take_length] at ha
      refine ⟨D, _, rfl, .inl (SqL.of upd_same), (by show 0 ≤ sizeLine; decide), fun sl nsl => ?_⟩
      rw [ha]
      have s2 : Same H (upd (upd H1 D (.lst acc)) sl (.lst [])) := same_upd (s1.trans (sD _)) ((s1.trans (sD _)).free nsl)
      have nslH : H sl = none := (s1.trans (sD _)).free nsl
      have M2 : Mach L pm (upd (upd H1 D (.lst acc)) sl (.lst [])) := hM.same s2
      have osl : ∀ j, j < 78 → sl ≠ L.A j := hM.out nslH
      refine ⟨_, rfl, a, _, rfl, s2.seq (SqL.of h1), ?_⟩
      have ed2 : (upd (upd H1 D (.lst acc)) sl (.lst [])) d = some (.dK kvs) := by
        rw [upd_ne (ne_of_none (sD _ _ _ ed) nsl)]
        exact sD _ _ _ ed
      refine for_it (walk_enumK (xs := rs.map V.ref)) (fun i σ H' => ∃ (v5 v6 v7 v8 : Option V) (ss : List Addr), σ = [some (.ref a), some (.ref (L.A 1)), some (.ref d), some (.int ((codeOf 1 pls).length : Nat)), some (.ref sl), v5, v6, v7, v8] ∧ Same H H' ∧ H' d = some (.dK kvs) ∧ H' sl = some (.lst (ss.map V.ref)) ∧ Mach L pm H' ∧
          Paired (fun st x => StepC CS mg L (prog pls 0) H' sl st x) ss (codeOf 1 (pls.take i)) ∧ ss.length ≤ i)
        ⟨none, none, none, none, [], rfl, s2, ed2, upd_same, M2, .nil, Nat.le_refl _⟩ ?_ ?_ ?_
      · rintro i σ H' _ ⟨v5, v6, v7, v8, ss, rfl, sm, _⟩
        exact sm.seq (SqL.of h1)
      · rintro i x σ H3 H4 hi ⟨v5, v6, v7, v8, ss, rfl, sm, e3, esl, M3, hpr, hsl⟩ ⟨Tu, x, rfl, nT, rfl, hx⟩
        rw [List.getElem?_map] at hx
        obtain ⟨r, hr', rfl⟩ := Option.map_eq_some_iff.mp hx
        obtain ⟨pl, hpl, la⟩ := paired_at h2 hr'
        have hi : i < pls.length := (List.getElem?_eq_some_iff.mp hpl).1
        have e_c := (labs_take hpl).2
        refine ⟨Tu, _, rfl, .inl (.inl upd_same), rfl, _, _, rfl, _, _, rfl, rfl, ?_⟩
        have s34 : Same H3 (upd H3 Tu (.tup [.int (1 + (i : Nat)), .ref r])) := same_upd (Same.refl H3) nT
        generalize upd H3 Tu (.tup [.int (1 + (i : Nat)), .ref r]) = H4 at s34 ⊢
        have la4 := line_same (sm.trans s34) la
        obtain ⟨dx, p, e1, ops⟩ := id la4
        refine ⟨_, rfl, r, CL, dx, _, _, rfl, e1, T.cl, T.nN, lnF_name _ _ _ _, rfl, _, rfl, ?_⟩
        rw [name_non]
        obtain ⟨lab, ins⟩ := pl
        cases ins with
        | none =>
          rw [List.append_nil] at e_c
          refine iteF ⟨_, _, v7, v8, ss, rfl, sm.trans s34, s34 _ _ e3, s34 _ _ esl, M3.same s34, ?_, Nat.le_succ_of_le hsl⟩
          rw [e_c]
          exact Paired.mapP hpr fun st x h => h.same s34
        | some j =>
          refine iteT ?_
          refine ⟨_, rfl, _, rfl, L, pm, r, lab, j, rfl, la4, M3.same s34, fun H5 t cl ix s45 nt et hcl hq => ?_⟩
          have la5 := line_same s45 la4
          have s35 := s34.trans s45
          refine ⟨_, rfl, _, rfl, _, rfl, r, d, lab, j, prog pls 0, kvs, rfl, la5, s35 _ _ e3, hp, fun kk l e => ?_, ?_⟩
          · subst e
            have hn : l ∈ names pls := by
              refine Classical.byContradiction fun hm => hb i hi ⟨lab, _, hpl, .inr ⟨kk, l, rfl, hm⟩⟩
            have pn := place_none (prog pls 0) l
            rw [show (prog pls 0).labels.map (·.1) = names pls from labs_names pls 1 0] at pn
            cases qq : (prog pls 0).place l with
            | some n => rfl
            | none => exact absurd hn (pn.mp (by rw [qq]; rfl))
          obtain ⟨g, hg⟩ := hact j
          obtain ⟨dx5, p5, e15, _⟩ := id la5
          have esl5 := s35 _ _ esl
          refine ⟨_, rfl, .inl ⟨rfl, _, SqL.of esl5⟩, ?_⟩
          refine ⟨_, rfl, _, rfl, r, CL, dx5, _, _, rfl, e15, T.cl, T.nN, lnF_name _ _ _ _, _, rfl, r, lab, j, rfl, la5, fun g' hg' => ?_⟩
          refine ⟨_, rfl, _, rfl, r, lab, j, rfl, la5, _, rfl, fun x dxx nx ndx nex => ?_⟩
          have ntx : t ≠ x := fun z => by rw [z, nx] at et; cases et
          have ntd : t ≠ dxx := fun z => by rw [z, ndx] at et; cases et
          refine ⟨x, dxx, t, _, _, _, cl, .int ix, _, _, rfl, upd_same, by rw [upd_ne ntx, upd_ne ntd]; exact et, fun H6 o6 => ⟨rfl, ?_⟩⟩
          have s56 : Same H5 H6 := Same.made nx ndx fun b ob eb hb' => by rw [o6.oth b hb']; exact eb
          have s36 := s35.trans s56
          have esl6 := s56 _ _ esl5
          refine ⟨sl, _, _, rfl, rfl, esl6, ?_, ?_⟩
          · rw [List.length_map]
            exact Nat.lt_of_le_of_lt hsl (Nat.lt_of_lt_of_le hi (Nat.le_trans hln (by decide)))
          have nsx : ∀ o, Same H (upd H6 sl o) := fun o => same_upd (sm.trans s36) nslH
          have stc : StepC CS mg L (prog pls 0) H6 sl x (i + 1, j) := by
            refine ⟨g', dxx, cl, ix, hg', ?_, fun y hy => (hcl y hy).frame (Frame.of_same s56), M3.same s35 |>.out nx, fun z => ?_⟩
            · rw [o6.at_, show ((1 : Int) + (i : Nat)) = ((i + 1 : Nat) : Int) from by omega]
              rfl
            · rcases hq sl z with ⟨jj, hjj, e⟩ | e
              · exact osl jj hjj e
              · have := s34 _ _ esl
                rw [this] at e
                cases e
          refine ⟨_, _, _, _, ss ++ [x], rfl, nsx _, ?_, ?_, (M3.same s36).putO osl, ?_, ?_⟩
          · have nd : d ≠ sl := fun z => by rw [z, esl] at e3; cases e3
            rw [upd_ne nd]
            exact s36 _ _ e3
          · rw [upd_same, List.map_append]
            rfl
          · rw [e_c]
            exact paired_snoc (stc.put esl6) (Paired.mapP hpr fun st x h => (h.same s36).put esl6)
          · rw [List.length_append]
            exact Nat.succ_le_succ hsl
      · rintro σ H3 ⟨v5, v6, v7, v8, ss, rfl, sm, e3, esl, M3, hpr, hsl⟩
        rw [List.length_map, ln, List.take_length] at hpr
        exact ⟨_, rfl, q H3 sl ss sm nslH esl osl hpr⟩
end
end Sl
set_option Elab.async false
set_option linter.all false
set_option maxRecDepth 100000
set_option maxHeartbeats 4000000
namespace Sl
open PySem PySem.Spec PyProof.Rows L2 SlM
/-! ### new_cells -/
def names9 : List Str := [Str.ofString "constant", Str.ofString "W", Str.ofString "I", Str.ofString "Q", Str.ofString "M", Str.ofString "T", Str.ofString "C", Str.ofString "E", Str.ofString "V"]
def vals9 (ws : List V) : List (List V) := [[.bl false, .bl true], ws, List.replicate 64 (.bl false), List.replicate 64 (.bl false), List.replicate 256 (.bl false), List.replicate 32 (.bl false), List.replicate 32 (.bl false), List.replicate 32 (.int 0), List.replicate 32 (.int 0)]
def kvOf (as : List Addr) : List (Key × V) := (names9.zip as).map fun x => (Sum.inr x.1, .ref x.2)
theorem zip_snoc {α β : Type} : ∀ (l : List α) (m : List β) (b : β) (x : α), l[m.length]? = some x → l.zip (m ++ [b]) = l.zip m ++ [(x, b)]
  | [], m, b, x, h => by cases h
  | a :: l, [], b, x, h => by
    cases h
    show (a :: l).zip [b] = (a :: l).zip [] ++ [(a, b)]
    simp
  | a :: l, c :: m, b, x, h => by
    rw [List.length_cons, List.getElem?_cons_succ] at h
    show (a, c) :: l.zip (m ++ [b]) = (a, c) :: (l.zip m ++ [(x, b)])
    rw [zip_snoc l m b x h]
theorem nd_at {α : Type} : ∀ {l : List α}, l.Nodup → ∀ {i j : Nat} {x : α}, l[i]? = some x → l[j]? = some x → i = j
  | [], _, i, j, x, h, _ => by cases h
  | a :: l, nd, i, j, x, h1, h2 => by
    rw [List.nodup_cons] at nd
    rcases i with _ | i
    · rcases j with _ | j
      · rfl
      · rw [List.getElem?_cons_succ] at h2
        cases h1
        exact absurd (List.mem_of_getElem? h2) nd.1
    · rw [List.getElem?_cons_succ] at h1
      rcases j with _ | j
      · cases h2
        exact absurd (List.mem_of_getElem? h1) nd.1
      · rw [List.getElem?_cons_succ] at h2
        rw [nd_at nd.2 h1 h2]
theorem putK_new {kvs : List (Key × V)} {k : Key} {v : V} (h : ∀ kv ∈ kvs, kv.1 ≠ k) : putK kvs k v = kvs ++ [(k, v)] := by
  unfold putK
  rw [if_neg]
  intro c
  obtain ⟨kv, hm, e⟩ := List.any_eq_true.mp c
  exact h kv hm (of_decide_eq_true e)
theorem kv_put {as : List Addr} {p : Addr} {x : Str} (h : names9[as.length]? = some x) : putK (kvOf as) (Sum.inr x) (.ref p) = kvOf (as ++ [p]) := by
  have nd : names9.Nodup := by decide +kernel
  rw [putK_new]
  · unfold kvOf
    rw [zip_snoc names9 as p x h, List.map_append]
    rfl
  · intro kv hm e
    obtain ⟨y, hy, rfl⟩ := List.mem_map.mp hm
    obtain ⟨i, hi⟩ := List.getElem?_of_mem hy
    rw [List.getElem?_zip_eq_some] at hi
    have e : y.1 = x := Sum.inr.inj e
    have lt : i < as.length := (List.getElem?_eq_some_iff.mp hi.2).1
    have h1 := hi.1
    rw [e] at h1
    have := nd_at nd h1 h
    omega
/-- n of the lists stand, all new since H -/
structure Cells (H H' : Hp) (c : Addr) (as : List Addr) (ws : List V) : Prop where
  same : Same H H'
  nc : H c = none
  ec : H' c = some (.dK (kvOf as))
  nd : (c :: as).Nodup
  at_ : ∀ (k : Nat) (a : Addr), as[k]? = some a → H a = none ∧ ∃ l, (vals9 ws)[k]? = some l ∧ H' a = some (.lst l)
theorem Cells.more {H H' H2 : Hp} {c : Addr} {as : List Addr} {ws : List V} {p : Addr} {x : Str} {l : List V} (h : Cells H H' c as ws) (s : Same H' H2) (np : H' p = none) (ep : H2 p = some (.lst l)) (hx : names9[as.length]? = some x) (hl : (vals9 ws)[as.length]? = some l) : Cells H (upd H2 c (.dK (putK (kvOf as) (Sum.inr x) (.ref p)))) c (as ++ [p]) ws := by
  have pc : p ≠ c := fun z => by rw [z, h.ec] at np; cases np
  refine ⟨?_, h.nc, by rw [upd_same, kv_put hx], ?_, fun k a ha => ?_⟩
  · exact same_upd (h.same.trans s) h.nc
  · have e : c :: (as ++ [p]) = (c :: as) ++ [p] := rfl
    rw [e, List.nodup_append]
    refine ⟨h.nd, by simp, fun a ha b hb z => ?_⟩
    rw [List.mem_singleton.mp hb] at z
    rcases List.mem_cons.mp ha with q | q
    · exact pc (z.symm.trans q)
    · obtain ⟨k, hk⟩ := List.getElem?_of_mem q
      obtain ⟨_, l', _, e'⟩ := h.at_ k a hk
      rw [z, np] at e'
      cases e'
  · rcases Nat.lt_trichotomy k as.length with lt | eq | gt
    · rw [List.getElem?_append_left lt] at ha
      obtain ⟨n1, l', e1, e2⟩ := h.at_ k a ha
      have ac : a ≠ c := fun z => by
        have := h.nd
        rw [List.nodup_cons] at this
        exact this.1 (z ▸ List.mem_of_getElem? ha)
      exact ⟨n1, l', e1, by rw [upd_ne ac]; exact s _ _ e2⟩
    · rw [eq, List.getElem?_append_right (Nat.le_refl _), Nat.sub_self] at ha
      cases (show some p = some a from ha)
      exact ⟨h.same.free np, l, by rw [eq]; exact hl, by rw [upd_ne pc]; exact ep⟩
    · rw [List.getElem?_eq_none (by rw [List.length_append, List.length_singleton]; omega)] at ha
      cases ha
theorem rep_one (n : Nat) (v : V) : (List.replicate n [v]).flatten = List.replicate n v := by
  induction n with
  | zero => rfl
  | succ n ih => rw [List.replicate_succ, List.flatten_cons, ih]; rfl
section
variable {P : Program} {w : World} {K : PySem.W.Frag} {mg : Str → Option Value} {base : Heap}
def spCells (K : PySem.W.Frag) : Sp := fun vs H Q _ => ∃ (a : Addr) (ws : List V), vs = [.ref a] ∧ SqL K H a ws ∧ ws.length ≤ 1000 ∧ ∀ H' c as, Cells H H' c as ws → as.length = 9 → Q (.ref c) H'
theorem sc_cel : FnScope ["words", "cells", "kind"] ["words"] (defScope s_new_cells) := ⟨rfl, rfl, rfl, by decide +kernel, rfl, by decide +kernel, by decide +kernel⟩
theorem ok_cel {f : Addr} {fd : FuncData} (F : Fun K "new_cells" "new_cells" s_new_cells f fd) (hls : mg "list" = none) (Z : Df P w K mg base CX0 1 "size_of" ["kind"] spSize) : FnOk P w K mg base CX0 2 f fd ["words"] (spCells K) := by
  obtain ⟨fZ, fdZ, mZ, kZ, bZ, FZ⟩ := Z
  refine F.ok sc_cel (fun vs H Q E h => ?_) (fun cdv A outer s H vs Q E hr h => ?_)
  · obtain ⟨a, ws, rfl, _⟩ := h
    rfl
  · have hu := hu_of hr
    refine ⟨_, pss_cons (ps_set (i := 1) sc_cel.nd rfl (Or.inl rfl) (pe_disp (pps_cons pe_str (pe_lst (pa_cons pe_bl (pa_cons pe_bl pa_nil))) (pps_cons pe_str (pe_callTy call_list_of (by rfl) hls (by decide +kernel) (pa_cons (pv 0) pa_nil)) pps_nil)) (by rfl) (by rfl) (by simp) (by decide)))
      (pss_cons (ps_for PassesOwn.never rfl (pi_tup (pe_tup (pa_cons pe_str (pa_cons pe_str (pa_cons pe_str (pa_cons pe_str (pa_cons pe_str pa_nil))))))) (pg_name (i := 2) sc_cel.nd rfl (Or.inl rfl))
        (pss_one (ps_dput hu (pv 1) (pv 2) (pe_op op_rep (pe_lst (pa_cons pe_bl pa_nil)) (pe_call FZ hr (by rfl) mZ kZ bZ .nil pass0 (pa_cons (pv 2) pa_nil))) rfl)))
      (pss_cons (ps_for PassesOwn.never rfl (pi_tup (pe_tup (pa_cons pe_str (pa_cons pe_str pa_nil)))) (pg_name (i := 2) sc_cel.nd rfl (Or.inl rfl))
        (pss_one (ps_dput hu (pv 1) (pv 2) (pe_op op_rep (pe_lst (pa_cons pe_int pa_nil)) (pe_call FZ hr (by rfl) mZ kZ bZ .nil pass0 (pa_cons (pv 2) pa_nil))) rfl)))
      (pss_one (ps_ret (pv 1))))), ?_⟩
    obtain ⟨a, ws, rfl, hS, hw, k⟩ := h
    intro c nc
    refine ⟨(by show 2 ≤ sizeLine; decide), fun l0 n0 => ⟨_, rfl, a, ws, rfl, .inl ((same_upd (same_upd (Same.refl H) nc) ?_).seq hS), fun l1 n1 => ?_⟩⟩
    · rw [upd_ne (fun z => by rw [z, upd_same] at n0; cases n0)] at n0
      exact n0
    have c0 : l0 ≠ c := fun z => by rw [z, upd_same] at n0; cases n0
    have n0H : H l0 = none := by rw [upd_ne c0] at n0; exact n0
    have c1 : l1 ≠ l0 := fun z => by rw [z, upd_same] at n1; cases n1
    have c1c : l1 ≠ c := fun z => by rw [z, upd_ne (Ne.symm c0), upd_same] at n1; cases n1
    have n1H : H l1 = none := by rw [upd_ne c1, upd_ne c1c] at n1; exact n1
    refine ⟨by rw [upd_ne (Ne.symm c1c), upd_ne (Ne.symm c0)]; exact upd_same, [(Sum.inr (Str.ofString "constant"), .ref l0), (Sum.inr (Str.ofString "W"), .ref l1)], rfl, (by show 2 ≤ 15; decide), ?_⟩
    have C0 : Cells H (upd (upd (upd (upd H c (.dK [])) l0 (.lst [.bl false, .bl true])) l1 (.lst ws)) c (.dK (mergeK [] [(Sum.inr (Str.ofString "constant"), .ref l0), (Sum.inr (Str.ofString "W"), .ref l1)]))) c [l0, l1] ws := by
      refine ⟨same_upd (same_upd (same_upd (same_upd (Same.refl H) nc) n0H) n1H) nc, nc, ?_, ?_, fun k x hx => ?_⟩
      · rw [upd_same]
        exact congrArg (fun z => some (HO.dK z)) (by kernel_rfl)
      · simp [Ne.symm c0, Ne.symm c1c, Ne.symm c1]
      · rcases k with _ | _ | k
        · cases hx
          exact ⟨n0H, _, rfl, by rw [upd_ne c0, upd_ne (Ne.symm c1)]; exact upd_same⟩
        · cases hx
          exact ⟨n1H, _, rfl, by rw [upd_ne c1c]; exact upd_same⟩
        · cases hx
    generalize upd (upd (upd (upd H c (.dK [])) l0 (.lst [.bl false, .bl true])) l1 (.lst ws)) c (.dK (mergeK [] [(Sum.inr (Str.ofString "constant"), .ref l0), (Sum.inr (Str.ofString "W"), .ref l1)])) = H0 at C0 ⊢
    have c0 : ∃ as, as.length = 2 ∧ Cells H H0 c as ws := ⟨[l0, l1], rfl, C0⟩
    refine ⟨(by show 5 ≤ sizeLine; decide), fun tp ntp => ?_⟩
    refine ⟨tp, rfl, ⟨_, SqT.of upd_same⟩, ?_⟩
    refine for_tup (K := K) (a := tp) (xs := [.str (Str.ofString "I"), .str (Str.ofString "Q"), .str (Str.ofString "M"), .str (Str.ofString "T"), .str (Str.ofString "C")]) (fun i σ H' => ∃ (v : Option V) (as : List Addr), σ = [some (.ref a), some (.ref c), v] ∧ as.length = i + 2 ∧ Cells H H' c as ws ∧ H' tp = some (.tup [.str (Str.ofString "I"), .str (Str.ofString "Q"), .str (Str.ofString "M"), .str (Str.ofString "T"), .str (Str.ofString "C")]))
      ⟨none, [l0, l1], rfl, rfl, ?_, upd_same⟩ ?_ ?_ ?_
    · exact ⟨same_upd C0.same (C0.same.free ntp), nc, by rw [upd_ne (fun z => by rw [← z, C0.ec] at ntp; cases ntp)]; exact C0.ec, C0.nd, fun k x hx => by
        obtain ⟨q1, l, q2, q3⟩ := C0.at_ k x hx
        exact ⟨q1, l, q2, by rw [upd_ne (ne_of_none q3 ntp)]; exact q3⟩⟩
    · rintro i σ H' _ ⟨v, as, rfl, _, _, ht⟩
      exact SqT.of ht
    · rintro i x σ H1 hx ⟨v, as, rfl, hl, C1, ht⟩
      obtain ⟨nm, n, hxn, hsz, hn9, hv9, hn0⟩ : ∃ (nm : Str) (n : Nat), x = .str nm ∧ sizesV.lookup nm = some (.int n) ∧ names9[as.length]? = some nm ∧ (vals9 ws)[as.length]? = some (List.replicate n (.bl false)) ∧ n ≤ 1000 := by
        rw [hl]
        rcases i with _ | _ | _ | _ | _ | i
        · cases hx; exact ⟨_, 64, rfl, by decide +kernel, rfl, rfl, by decide⟩
        · cases hx; exact ⟨_, 64, rfl, by decide +kernel, rfl, rfl, by decide⟩
        · cases hx; exact ⟨_, 256, rfl, by decide +kernel, rfl, rfl, by decide⟩
        · cases hx; exact ⟨_, 32, rfl, by decide +kernel, rfl, rfl, by decide⟩
        · cases hx; exact ⟨_, 32, rfl, by decide +kernel, rfl, rfl, by decide⟩
        · cases hx
      subst hxn
      refine ⟨(by show 1 ≤ sizeLine; decide), fun l nl => ⟨_, rfl, nm, _, rfl, hsz, l, n, _, rfl, rfl, upd_same, by omega, by omega, ?_, fun p np => ?_⟩⟩
      · show 1 * (n : Int).toNat ≤ sizeLine
        rw [Int.toNat_natCast]
        exact Nat.le_trans (by omega : 1 * n ≤ 1000) (by decide)
      have pl : p ≠ l := fun z => by rw [z, upd_same] at np; cases np
      have npH : H1 p = none := by rw [upd_ne pl] at np; exact np
      have s12 : Same H1 (upd (upd H1 l (.lst [.bl false])) p (.lst (List.replicate (n : Int).toNat [V.bl false]).flatten)) := same_upd (same_upd (Same.refl H1) nl) npH
      have ep : (upd (upd H1 l (.lst [.bl false])) p (.lst (List.replicate (n : Int).toNat [V.bl false]).flatten)) p = some (.lst (List.replicate n (.bl false))) := by rw [upd_same, Int.toNat_natCast, rep_one]
      have C2 := C1.more s12 npH ep hn9 hv9
      generalize upd (upd H1 l (.lst [.bl false])) p (.lst (List.replicate (n : Int).toNat [V.bl false]).flatten) = H2 at s12 ep C2 ⊢
      refine ⟨_, rfl, _, rfl, c, _, rfl, DPut.k (k := Sum.inr nm) (s12 _ _ C1.ec) ?_, _, as ++ [p], rfl, by rw [List.length_append, hl]; rfl, C2, ?_⟩
      · unfold kvOf
        rw [List.length_map, List.length_zip]
        exact Nat.lt_of_le_of_lt (Nat.min_le_left _ _) (by decide)
      · have tc : tp ≠ c := fun z => by rw [z, C1.ec] at ht; cases ht
        rw [upd_ne tc]
        exact s12 _ _ ht
    · rintro σ H1 ⟨v, as, rfl, hl, C1, ht⟩
      refine ⟨(by show 2 ≤ sizeLine; decide), fun tq ntq => ?_⟩
      refine ⟨tq, rfl, ⟨_, SqT.of upd_same⟩, ?_⟩
      refine for_tup (K := K) (a := tq) (xs := [.str (Str.ofString "E"), .str (Str.ofString "V")]) (fun i σ H' => ∃ (v : Option V) (as : List Addr), σ = [some (.ref a), some (.ref c), v] ∧ as.length = i + 7 ∧ Cells H H' c as ws ∧ H' tq = some (.tup [.str (Str.ofString "E"), .str (Str.ofString "V")]))
        ⟨v, as, rfl, hl, ?_, upd_same⟩ ?_ ?_ ?_
      · exact ⟨same_upd C1.same (C1.same.free ntq), nc, by rw [upd_ne (fun z => by rw [← z, C1.ec] at ntq; cases ntq)]; exact C1.ec, C1.nd, fun k x hx => by
          obtain ⟨q1, l, q2, q3⟩ := C1.at_ k x hx
          exact ⟨q1, l, q2, by rw [upd_ne (ne_of_none q3 ntq)]; exact q3⟩⟩
      · rintro i σ H' _ ⟨v, as, rfl, _, _, ht⟩
        exact SqT.of ht
      · rintro i x σ H1 hx ⟨v, as, rfl, hl, C1, ht⟩
        obtain ⟨nm, n, hxn, hsz, hn9, hv9, hn0⟩ : ∃ (nm : Str) (n : Nat), x = .str nm ∧ sizesV.lookup nm = some (.int n) ∧ names9[as.length]? = some nm ∧ (vals9 ws)[as.length]? = some (List.replicate n (.int 0)) ∧ n ≤ 1000 := by
          rw [hl]
          rcases i with _ | _ | i
          · cases hx; exact ⟨_, 32, rfl, by decide +kernel, rfl, rfl, by decide⟩
          · cases hx; exact ⟨_, 32, rfl, by decide +kernel, rfl, rfl, by decide⟩
          · cases hx
        subst hxn
        refine ⟨(by show 1 ≤ sizeLine; decide), fun l nl => ⟨_, rfl, nm, _, rfl, hsz, l, n, _, rfl, rfl, upd_same, by omega, by omega, ?_, fun p np => ?_⟩⟩
        · show 1 * (n : Int).toNat ≤ sizeLine
          rw [Int.toNat_natCast]
          exact Nat.le_trans (by omega : 1 * n ≤ 1000) (by decide)
        have pl : p ≠ l := fun z => by rw [z, upd_same] at np; cases np
        have npH : H1 p = none := by rw [upd_ne pl] at np; exact np
        have s12 : Same H1 (upd (upd H1 l (.lst [.int 0])) p (.lst (List.replicate (n : Int).toNat [V.int 0]).flatten)) := same_upd (same_upd (Same.refl H1) nl) npH
        have ep : (upd (upd H1 l (.lst [.int 0])) p (.lst (List.replicate (n : Int).toNat [V.int 0]).flatten)) p = some (.lst (List.replicate n (.int 0))) := by rw [upd_same, Int.toNat_natCast, rep_one]
        have C2 := C1.more s12 npH ep hn9 hv9
        generalize upd (upd H1 l (.lst [.int 0])) p (.lst (List.replicate (n : Int).toNat [V.int 0]).flatten) = H2 at s12 ep C2 ⊢
        refine ⟨_, rfl, _, rfl, c, _, rfl, DPut.k (k := Sum.inr nm) (s12 _ _ C1.ec) ?_, _, as ++ [p], rfl, by rw [List.length_append, hl]; rfl, C2, ?_⟩
        · unfold kvOf
          rw [List.length_map, List.length_zip]
          exact Nat.lt_of_le_of_lt (Nat.min_le_left _ _) (by decide)
        · have tc : tq ≠ c := fun z => by rw [z, C1.ec] at ht; cases ht
          rw [upd_ne tc]
          exact s12 _ _ ht
      · rintro σ H1 ⟨v, as, rfl, hl, C1, ht⟩
        exact ⟨_, rfl, k H1 c as C1 hl⟩
end
end Sl
set_option Elab.async false
set_option linter.all false
set_option maxRecDepth 100000
set_option maxHeartbeats 4000000
namespace Sl
open PySem PySem.Spec PyProof.Rows L2 SlM
theorem ne_of_none2 {H : Hp} {a b : Addr} (h : ∃ o, H a = some o) (n : H b = none) : a ≠ b := fun z => by
  obtain ⟨o, h⟩ := h
  rw [z, n] at h
  cases h
/-- a list of new objects of one class -/
structure Objs (C : Addr) (fs : List (Str × V)) (H H' : Hp) (D : Addr) (ts : List (Addr × Addr)) : Prop where
  same : Same H H'
  nD : H D = none
  eD : H' D = some (.lst (ts.map fun x => .ref x.1))
  nd : (D :: ts.map (·.1)).Nodup
  at_ : ∀ x ∈ ts, H x.1 = none ∧ H' x.1 = some (.ins C x.2 fs)
theorem Objs.more {C : Addr} {fs : List (Str × V)} {H H' H2 : Hp} {D x dx : Addr} {ts : List (Addr × Addr)} (h : Objs C fs H H' D ts) (nx : H' x = none) (ndx : H' dx = none) (ne : dx ≠ x) (o : Obj1 (upd (upd H' dx (.own x)) x (.ins C dx [])) H2 x (.ins C dx fs)) :
    Objs C fs H (upd H2 D (.lst ((ts.map fun x => V.ref x.1) ++ [.ref x]))) D (ts ++ [(x, dx)]) := by
  have s2 : Same H' H2 := Same.made nx ndx fun b ob eb hb => by rw [o.oth b hb]; exact eb
  have xD : x ≠ D := fun z => by rw [z, h.eD] at nx; cases nx
  have nxs : ∀ y ∈ ts, x ≠ y.1 := fun y hy z => by rw [z, (h.at_ y hy).2] at nx; cases nx
  refine ⟨same_upd (h.same.trans s2) h.nD, h.nD, by rw [upd_same, List.map_append]; rfl, ?_, fun y hy => ?_⟩
  · have e : D :: (ts ++ [(x, dx)]).map (·.1) = (D :: ts.map (·.1)) ++ [x] := by rw [List.map_append]; rfl
    rw [e, List.nodup_append]
    refine ⟨h.nd, by simp, fun a ha b hb z => ?_⟩
    rw [List.mem_singleton.mp hb] at z
    rcases List.mem_cons.mp ha with q | q
    · exact xD (z.symm.trans q)
    · obtain ⟨y, hy, e⟩ := List.mem_map.mp q
      exact nxs y hy (z.symm.trans e.symm)
  · rcases List.mem_append.mp hy with q | q
    · obtain ⟨a, b⟩ := h.at_ y q
      have yD : y.1 ≠ D := fun z => by
        have := h.nd
        rw [List.nodup_cons] at this
        exact this.1 (List.mem_map.mpr ⟨y, q, z⟩)
      exact ⟨a, by rw [upd_ne yD]; exact s2 _ _ b⟩
    · rw [List.mem_singleton.mp q]
      exact ⟨h.same.free nx, by rw [upd_ne xD]; exact o.at_⟩
/-- all but the object at m stay -/
def Keep (m : Addr) (H H' : Hp) : Prop := ∀ b o, H b = some o → b ≠ m → H' b = some o
theorem Keep.trans {m : Addr} {H H1 H2 : Hp} (a : Keep m H H1) (b : Keep m H1 H2) : Keep m H H2 := fun c o h n => b c o (a c o h n) n
theorem Keep.of {m : Addr} {H H' : Hp} (s : Same H H') : Keep m H H' := fun b o h _ => s b o h
theorem Keep.put {m : Addr} {H : Hp} {o : HO} : Keep m H (upd H m o) := fun b u h n => by rw [upd_ne n]; exact h
theorem Keep.none {m a : Addr} {H H' : Hp} {o : HO} (k : Keep m H H') (e : H' m = some o) (n : H' a = Option.none) : H a = Option.none ∧ a ≠ m := by
  have am : a ≠ m := fun z => by rw [z, e] at n; cases n
  refine ⟨?_, am⟩
  cases q : H a with
  | none => rfl
  | some u => rw [k a u q am] at n; cases n
/-! ### the layout -/
def allOf (m c : Addr) (as : List Addr) (tl cl pb : Addr) (ts cs : List (Addr × Addr)) : List Addr := m :: c :: (as ++ tl :: cl :: pb :: (ts.map (·.1) ++ cs.map (·.1)))
def layOf (CM CT CC dm : Addr) (m c : Addr) (as : List Addr) (tl cl pb : Addr) (ts cs : List (Addr × Addr)) : Lay where
  CM := CM
  CT := CT
  CC := CC
  A := fun j => (allOf m c as tl cl pb ts cs).getD j 0
  D := fun j => (dm :: (List.replicate 13 0 ++ (ts.map (·.2) ++ cs.map (·.2)))).getD j 0
theorem getD_l {α : Type} {l m : List α} {n : Nat} {d : α} (h : n < l.length) : (l ++ m).getD n d = l.getD n d := by
  rw [List.getD_eq_getElem?_getD, List.getElem?_append_left h, List.getD_eq_getElem?_getD]
theorem getD_r {α : Type} {l m : List α} {n : Nat} {d : α} (h : l.length ≤ n) : (l ++ m).getD n d = m.getD (n - l.length) d := by
  rw [List.getD_eq_getElem?_getD, List.getElem?_append_right h, List.getD_eq_getElem?_getD]
theorem getD_map {α β : Type} {l : List α} {n : Nat} {d : β} {e : α} {f : α → β} (h : n < l.length) : (l.map f).getD n d = f (l.getD n e) := by
  rw [List.getD_eq_getElem?_getD, List.getElem?_map, List.getElem?_eq_getElem h, List.getD_eq_getElem?_getD, List.getElem?_eq_getElem h]
  rfl
theorem mach_of {CM CT CC dm m c tl cl pb : Addr} {as : List Addr} {ts cs : List (Addr × Addr)} {ws : List Int} {H : Hp} (h9 : as.length = 9) (ht : ts.length = 32) (hc : cs.length = 32)
    (em : H m = some (.ins CM dm (machF (.ref c) (.ref tl) (.ref cl) (.int 0) .non (.ref pb) (.int 0)))) (ec : H c = some (.dK (kvOf as))) (ea : ∀ (k : Nat) (a : Addr), as[k]? = some a → ∃ l, (vals9 (ws.map V.int))[k]? = some l ∧ H a = some (.lst l))
    (et : H tl = some (.lst (ts.map fun x => .ref x.1))) (el : H cl = some (.lst (cs.map fun x => .ref x.1))) (ep : H pb = some (.lst [])) (ex : ∀ x ∈ ts, H x.1 = some (.ins CT x.2 (timF Sf47.noTim))) (ey : ∀ x ∈ cs, H x.1 = some (.ins CC x.2 (cntF Sf47.noCount))) :
    Mach (layOf CM CT CC dm m c as tl cl pb ts cs) (pmOf (Sf47.begin_ ws) [] 0) H := by
  match as, h9 with
  | [a2, a3, a4, a5, a6, a7, a8, a9, a10], _ =>
    have atim : ∀ n, n < 32 → (layOf CM CT CC dm m c [a2, a3, a4, a5, a6, a7, a8, a9, a10] tl cl pb ts cs).A (n + 14) = (ts.getD n (0, 0)).1 := fun n hn => by
      show (ts.map (·.1) ++ cs.map (·.1)).getD n 0 = _
      rw [getD_l (by rw [List.length_map, ht]; exact hn), getD_map (e := (0, 0)) (by rw [ht]; exact hn)]
    have acnt : ∀ n, n < 32 → (layOf CM CT CC dm m c [a2, a3, a4, a5, a6, a7, a8, a9, a10] tl cl pb ts cs).A (n + 46) = (cs.getD n (0, 0)).1 := fun n hn => by
      show (ts.map (·.1) ++ cs.map (·.1)).getD (n + 32) 0 = _
      rw [getD_r (by rw [List.length_map, ht]; omega), List.length_map, ht, Nat.add_sub_cancel, getD_map (e := (0, 0)) (by rw [hc]; exact hn)]
    have dtim : ∀ n, n < 32 → (layOf CM CT CC dm m c [a2, a3, a4, a5, a6, a7, a8, a9, a10] tl cl pb ts cs).D (n + 14) = (ts.getD n (0, 0)).2 := fun n hn => by
      show (ts.map (·.2) ++ cs.map (·.2)).getD n 0 = _
      rw [getD_l (by rw [List.length_map, ht]; exact hn), getD_map (e := (0, 0)) (by rw [ht]; exact hn)]
    have dcnt : ∀ n, n < 32 → (layOf CM CT CC dm m c [a2, a3, a4, a5, a6, a7, a8, a9, a10] tl cl pb ts cs).D (n + 46) = (cs.getD n (0, 0)).2 := fun n hn => by
      show (ts.map (·.2) ++ cs.map (·.2)).getD (n + 32) 0 = _
      rw [getD_r (by rw [List.length_map, ht]; omega), List.length_map, ht, Nat.add_sub_cancel, getD_map (e := (0, 0)) (by rw [hc]; exact hn)]
    have cell : ∀ (k : Nat) (a : Addr) (l : List V), [a2, a3, a4, a5, a6, a7, a8, a9, a10][k]? = some a → (vals9 (ws.map V.int))[k]? = some l → H a = some (.lst l) := fun k a l h1 h2 => by
      obtain ⟨l', e1, e2⟩ := ea k a h1
      rw [h2] at e1
      cases e1
      exact e2
    intro j hj
    rcases j with _ | _ | _ | _ | _ | _ | _ | _ | _ | _ | _ | _ | _ | _ | n
    · exact em
    · exact ec
    · exact cell 0 a2 _ rfl rfl
    · exact cell 1 a3 _ rfl rfl
    · rw [show img (layOf CM CT CC dm m c [a2, a3, a4, a5, a6, a7, a8, a9, a10] tl cl pb ts cs) (pmOf (Sf47.begin_ ws) [] 0) 4 = .lst (List.replicate 64 (.bl false)) from by kernel_rfl]
      exact cell 2 a4 _ rfl rfl
    · rw [show img (layOf CM CT CC dm m c [a2, a3, a4, a5, a6, a7, a8, a9, a10] tl cl pb ts cs) (pmOf (Sf47.begin_ ws) [] 0) 5 = .lst (List.replicate 64 (.bl false)) from by kernel_rfl]
      exact cell 3 a5 _ rfl rfl
    · rw [show img (layOf CM CT CC dm m c [a2, a3, a4, a5, a6, a7, a8, a9, a10] tl cl pb ts cs) (pmOf (Sf47.begin_ ws) [] 0) 6 = .lst (List.replicate 256 (.bl false)) from by kernel_rfl]
      exact cell 4 a6 _ rfl rfl
    · rw [show img (layOf CM CT CC dm m c [a2, a3, a4, a5, a6, a7, a8, a9, a10] tl cl pb ts cs) (pmOf (Sf47.begin_ ws) [] 0) 7 = .lst (List.replicate 32 (.bl false)) from by kernel_rfl]
      exact cell 5 a7 _ rfl rfl
    · rw [show img (layOf CM CT CC dm m c [a2, a3, a4, a5, a6, a7, a8, a9, a10] tl cl pb ts cs) (pmOf (Sf47.begin_ ws) [] 0) 8 = .lst (List.replicate 32 (.bl false)) from by kernel_rfl]
      exact cell 6 a8 _ rfl rfl
    · rw [show img (layOf CM CT CC dm m c [a2, a3, a4, a5, a6, a7, a8, a9, a10] tl cl pb ts cs) (pmOf (Sf47.begin_ ws) [] 0) 9 = .lst (List.replicate 32 (.int 0)) from by kernel_rfl]
      exact cell 7 a9 _ rfl rfl
    · rw [show img (layOf CM CT CC dm m c [a2, a3, a4, a5, a6, a7, a8, a9, a10] tl cl pb ts cs) (pmOf (Sf47.begin_ ws) [] 0) 10 = .lst (List.replicate 32 (.int 0)) from by kernel_rfl]
      exact cell 8 a10 _ rfl rfl
    · show H tl = some (.lst ((List.range 32).map fun k => .ref ((layOf CM CT CC dm m c [a2, a3, a4, a5, a6, a7, a8, a9, a10] tl cl pb ts cs).A (k + 14))))
      rw [et]
      refine congrArg (fun z => some (HO.lst z)) (List.ext_getElem? fun k => ?_)
      by_cases hk : k < 32
      · rw [List.getElem?_map, List.getElem?_map, List.getElem?_range hk, Option.map_some, atim k hk, List.getElem?_eq_getElem (by rw [ht]; exact hk), List.getD_eq_getElem?_getD, List.getElem?_eq_getElem (by rw [ht]; exact hk)]
        rfl
      · rw [List.getElem?_eq_none (by rw [List.length_map, ht]; omega), List.getElem?_eq_none (by rw [List.length_map, List.length_range]; omega)]
    · show H cl = some (.lst ((List.range 32).map fun k => .ref ((layOf CM CT CC dm m c [a2, a3, a4, a5, a6, a7, a8, a9, a10] tl cl pb ts cs).A (k + 46))))
      rw [el]
      refine congrArg (fun z => some (HO.lst z)) (List.ext_getElem? fun k => ?_)
      by_cases hk : k < 32
      · rw [List.getElem?_map, List.getElem?_map, List.getElem?_range hk, Option.map_some, acnt k hk, List.getElem?_eq_getElem (by rw [hc]; exact hk), List.getD_eq_getElem?_getD, List.getElem?_eq_getElem (by rw [hc]; exact hk)]
        rfl
      · rw [List.getElem?_eq_none (by rw [List.length_map, hc]; omega), List.getElem?_eq_none (by rw [List.length_map, List.length_range]; omega)]
    · exact ep
    · show H ((layOf CM CT CC dm m c [a2, a3, a4, a5, a6, a7, a8, a9, a10] tl cl pb ts cs).A (n + 14)) = some (img _ _ (n + 14))
      by_cases hn : n < 32
      · rw [img_tim _ _ hn, atim n hn, dtim n hn, ex _ (getD_mem (by rw [ht]; exact hn))]
        have e : (pmOf (Sf47.begin_ ws) [] 0).tim n = Sf47.noTim := by
          show (List.replicate 32 Sf47.noTim).getD n Sf47.noTim = _
          rw [List.getD_eq_getElem?_getD, List.getElem?_replicate, if_pos hn]
          rfl
        rw [e]
        rfl
      · have e : n + 14 = (n - 32) + 46 := by omega
        have hk : n - 32 < 32 := by omega
        rw [e, img_cnt, acnt _ hk, dcnt _ hk, ey _ (getD_mem (by rw [hc]; exact hk))]
        have e : (pmOf (Sf47.begin_ ws) [] 0).cnt (n - 32) = Sf47.noCount := by
          show (List.replicate 32 Sf47.noCount).getD (n - 32) Sf47.noCount = _
          rw [List.getD_eq_getElem?_getD, List.getElem?_replicate, if_pos hk]
          rfl
        rw [e]
        rfl
theorem lay_inj {CM CT CC dm m c tl cl pb : Addr} {as : List Addr} {ts cs : List (Addr × Addr)} (h9 : as.length = 9) (ht : ts.length = 32) (hc : cs.length = 32) (nd : (allOf m c as tl cl pb ts cs).Nodup) : (layOf CM CT CC dm m c as tl cl pb ts cs).Inj := by
  have ln : (allOf m c as tl cl pb ts cs).length = 78 := by
    unfold allOf
    simp [h9, ht, hc]
  intro i j hi hj e
  have a : ∀ k, k < 78 → (allOf m c as tl cl pb ts cs)[k]? = some ((allOf m c as tl cl pb ts cs).getD k 0) := fun k hk => by
    rw [List.getD_eq_getElem?_getD, List.getElem?_eq_getElem (by rw [ln]; exact hk)]
    rfl
  have e : (allOf m c as tl cl pb ts cs).getD i 0 = (allOf m c as tl cl pb ts cs).getD j 0 := e
  exact nd_at nd (a i hi) (by rw [e]; exact a j hj)
theorem all_nd {m c tl cl pb : Addr} {as : List Addr} {ts cs : List (Addr × Addr)} (n1 : (c :: as).Nodup) (n3 : (tl :: ts.map (·.1)).Nodup) (n5 : (cl :: cs.map (·.1)).Nodup)
    (d13 : ∀ x ∈ c :: as, ∀ y ∈ tl :: ts.map (·.1), x ≠ y) (d15 : ∀ x ∈ c :: as, ∀ y ∈ cl :: cs.map (·.1), x ≠ y) (d35 : ∀ x ∈ tl :: ts.map (·.1), ∀ y ∈ cl :: cs.map (·.1), x ≠ y)
    (p1 : ∀ x ∈ c :: as, x ≠ pb) (p3 : ∀ x ∈ tl :: ts.map (·.1), x ≠ pb) (p5 : ∀ x ∈ cl :: cs.map (·.1), x ≠ pb)
    (m1 : ∀ x ∈ c :: as, x ≠ m) (m3 : ∀ x ∈ tl :: ts.map (·.1), x ≠ m) (m5 : ∀ x ∈ cl :: cs.map (·.1), x ≠ m) (mp : pb ≠ m) : (allOf m c as tl cl pb ts cs).Nodup := by
  unfold allOf
  generalize ts.map (·.1) = T at *
  generalize cs.map (·.1) = U at *
  have b3 := List.nodup_cons.mp n3
  have b5 := List.nodup_cons.mp n5
  have hT : ∀ {x}, x ∈ T → x ∈ tl :: T := fun h => List.mem_cons_of_mem _ h
  have hU : ∀ {x}, x ∈ U → x ∈ cl :: U := fun h => List.mem_cons_of_mem _ h
  have htl : tl ∈ tl :: T := List.mem_cons_self ..
  have hcl : cl ∈ cl :: U := List.mem_cons_self ..
  have nR : (tl :: cl :: pb :: (T ++ U)).Nodup := by
    rw [List.nodup_cons, List.nodup_cons, List.nodup_cons, List.nodup_append]
    refine ⟨fun h => ?_, fun h => ?_, fun h => ?_, b3.2, b5.2, fun a ha b hb => d35 a (hT ha) b (hU hb)⟩
    · rcases List.mem_cons.mp h with h | h
      · exact d35 tl htl cl hcl h
      rcases List.mem_cons.mp h with h | h
      · exact p3 tl htl h
      rcases List.mem_append.mp h with h | h
      · exact b3.1 h
      · exact d35 tl htl tl (hU h) rfl
    · rcases List.mem_cons.mp h with h | h
      · exact p5 cl hcl h
      rcases List.mem_append.mp h with h | h
      · exact d35 cl (hT h) cl hcl rfl
      · exact b5.1 h
    · rcases List.mem_append.mp h with h | h
      · exact p3 pb (hT h) rfl
      · exact p5 pb (hU h) rfl
  have inR : ∀ {y}, y ∈ tl :: cl :: pb :: (T ++ U) → y ∈ tl :: T ∨ y ∈ cl :: U ∨ y = pb := fun {y} h => by
    rcases List.mem_cons.mp h with h | h
    · exact .inl (h ▸ htl)
    rcases List.mem_cons.mp h with h | h
    · exact .inr (.inl (h ▸ hcl))
    rcases List.mem_cons.mp h with h | h
    · exact .inr (.inr h)
    rcases List.mem_append.mp h with h | h
    · exact .inl (hT h)
    · exact .inr (.inl (hU h))
  have n2 : ((c :: as) ++ tl :: cl :: pb :: (T ++ U)).Nodup := by
    rw [List.nodup_append]
    refine ⟨n1, nR, fun x hx y hy => ?_⟩
    rcases inR hy with h | h | h
    · exact d13 x hx y h
    · exact d15 x hx y h
    · exact fun z => p1 x hx (z.trans h)
  rw [List.nodup_cons]
  refine ⟨fun h => ?_, n2⟩
  have h : m ∈ (c :: as) ++ tl :: cl :: pb :: (T ++ U) := h
  rcases List.mem_append.mp h with h | h
  · exact m1 m h rfl
  rcases inR h with h | h | h
  · exact m3 m h rfl
  · exact m5 m h rfl
  · exact mp h.symm
theorem all_in {c tl cl pb : Addr} {as : List Addr} {ts cs : List (Addr × Addr)} {x : Addr} (h : x ∈ c :: (as ++ tl :: cl :: pb :: (ts.map (·.1) ++ cs.map (·.1)))) : x ∈ c :: as ∨ x ∈ tl :: ts.map (·.1) ∨ x ∈ cl :: cs.map (·.1) ∨ x = pb := by
  simp only [List.mem_cons, List.mem_append] at h ⊢
  rcases h with h | h | h | h | h | h | h
  · exact .inl (.inl h)
  · exact .inl (.inr h)
  · exact .inr (.inl (.inl h))
  · exact .inr (.inr (.inl (.inl h)))
  · exact .inr (.inr (.inr h))
  · exact .inr (.inl (.inr h))
  · exact .inr (.inr (.inl (.inr h)))
section
variable {P : Program} {w : World} {K : PySem.W.Frag} {mg : Str → Option Value} {base : Heap} {CM CT CC fM fT fC : Addr} {fdM fdT fdC : FuncData}
def spMI (K : PySem.W.Frag) (CM CT CC : Addr) : Sp := fun vs H Q _ => ∃ (m dm a : Addr) (ws : List Int), vs = [.ref m, .ref a] ∧ H m = some (.ins CM dm []) ∧ SqL K H a (ws.map V.int) ∧ ws.length ≤ 1000 ∧
  ∀ H' L, LOk CM CT CC L → L.A 0 = m → Mach L (pmOf (Sf47.begin_ ws) [] 0) H' → Keep m H H' → (∀ j, 0 < j → j < 78 → H (L.A j) = none) → Q .non H'
theorem sc_mci : FnScope ["self", "words", "number"] ["self", "words"] (defScope s_machine_init) := ⟨rfl, rfl, rfl, by decide +kernel, rfl, by decide +kernel, by decide +kernel⟩
theorem ok_mci (M : MTxt K mg CM fM fdM) (TT : TimTxt K mg CT fT fdT) (TC : CntTxt K mg CC fC fdC) (hrg : mg "range" = none) (Z : Df P w K mg base CX0 1 "size_of" ["kind"] spSize) (C : Df P w K mg base CX0 2 "new_cells" ["words"] (spCells K)) : FnOk P w K mg base CX0 3 fM fdM ["self", "words"] (spMI K CM CT CC) := by
  obtain ⟨fZ, fdZ, mZ, kZ, bZ, FZ⟩ := Z
  obtain ⟨fN, fdN, mN, kN, bN, FN⟩ := C
  refine M.fi.ok sc_mci (fun vs H Q E h => ?_) (fun cdv A outer s H vs Q E hr h => ?_)
  · obtain ⟨m, dm, a, ws, rfl, _⟩ := h
    rfl
  · have hr1 : Room 1 _ := hr.mono (by decide)
    refine ⟨_, pss_cons (ps_fld (pv 0) (pe_call FN hr (by rfl) mN kN bN .nil pass0 (pa_cons (pv 1) pa_nil)) rfl)
      (pss_cons (ps_fld (pv 0) (pe_lc (own := [("number", 2)]) (g := gName 2) (tt := tYes) (te := tMake CT (spTimI CT) [] E0 tNil) rfl sc_mci.nd (pi_range1 (by rfl) hrg (pa_cons (pe_call FZ hr1 (by rfl) mZ kZ bZ .nil pass0 (pa_cons pe_str pa_nil)) pa_nil)) (blkOk_by (own := [("number", 2)]) (N := ["self", "words", "number"]) (sc := defScope s_machine_init) (by decide +kernel))
          (fun _ _ _ _ _ => pg_name (i := 2) sc_mci.nd rfl (Or.inl rfl)) (fun _ _ _ _ _ => pts_nil) (fun _ _ _ _ _ => pe_make0 TT.mkC (ok_tin TT) hr rfl TT.gC (b_tin TT) .nil pass0)) rfl)
      (pss_cons (ps_fld (pv 0) (pe_lc (own := [("number", 2)]) (g := gName 2) (tt := tYes) (te := tMake CC (spCntI CC) [] E0 tNil) rfl sc_mci.nd (pi_range1 (by rfl) hrg (pa_cons (pe_call FZ hr1 (by rfl) mZ kZ bZ .nil pass0 (pa_cons pe_str pa_nil)) pa_nil)) (blkOk_by (own := [("number", 2)]) (N := ["self", "words", "number"]) (sc := defScope s_machine_init) (by decide +kernel))
          (fun _ _ _ _ _ => pg_name (i := 2) sc_mci.nd rfl (Or.inl rfl)) (fun _ _ _ _ _ => pts_nil) (fun _ _ _ _ _ => pe_make0 TC.mkC (ok_cin TC) hr rfl TC.gC (b_cin TC) .nil pass0)) rfl)
      (pss_cons (ps_fld (pv 0) pe_int rfl) (pss_cons (ps_fld (pv 0) pe_non rfl) (pss_cons (ps_fld (pv 0) (pe_lst pa_nil) rfl) (pss_one (ps_fld (pv 0) pe_int rfl))))))), ?_⟩
    obtain ⟨m, dm, a, ws, rfl, hm, hS, hw, k⟩ := h
    refine ⟨_, rfl, a, ws.map V.int, rfl, hS, by rw [List.length_map]; exact hw, fun H1 c as C1 h9 => ?_⟩
    have m1 := C1.same _ _ hm
    refine ⟨_, rfl, m, CM, dm, [], rfl, m1, M.cl, M.nC, (by show 0 < 1000; decide), ?_⟩
    have k1 : Keep m H (upd H1 m (.ins CM dm (putF "cells" (.ref c) []))) := (Keep.of C1.same).trans Keep.put
    have em2 : (upd H1 m (.ins CM dm (putF "cells" (.ref c) []))) m = some (.ins CM dm (putF "cells" (.ref c) [])) := upd_same
    have nm1 : ∀ {b : Addr}, H b = none → b ≠ m := fun {b} nb z => by rw [z, hm] at nb; cases nb
    have ec2 : (upd H1 m (.ins CM dm (putF "cells" (.ref c) []))) c = some (.dK (kvOf as)) := by rw [upd_ne (nm1 C1.nc)]; exact C1.ec
    have ea2 : ∀ (k : Nat) (x : Addr), as[k]? = some x → ∃ l, (vals9 (ws.map V.int))[k]? = some l ∧ (upd H1 m (.ins CM dm (putF "cells" (.ref c) []))) x = some (.lst l) := fun k x hx => by
      obtain ⟨q1, l, q2, q3⟩ := C1.at_ k x hx
      exact ⟨l, q2, by rw [upd_ne (nm1 q1)]; exact q3⟩
    generalize upd H1 m (.ins CM dm (putF "cells" (.ref c) [])) = H2 at k1 em2 ec2 ea2 ⊢
    -- the timers
    refine ⟨_, .int 32, rfl, by decide +kernel, 32, rfl, by decide, by decide, fun tl ntl => ?_⟩
    refine lc_range (lo := 0) (n := 32) (fun i H' => ∃ ts : List (Addr × Addr), ts.length = i ∧ Objs CT (timF Sf47.noTim) H2 H' tl ts) ⟨[], rfl, same_upd (Same.refl H2) ntl, ntl, upd_same, by simp, fun x hx => by cases hx⟩ ?_ ?_
    · rintro i H' hi ⟨ts, hl, O⟩
      refine ⟨rfl, ?_⟩
      dsimp only [tYes]
      rw [if_pos rfl]
      intro x dx nx ndx ne
      refine ⟨x, dx, rfl, upd_same, fun H3 o => ⟨rfl, ts.map (fun x => V.ref x.1), ?_, ?_, ts ++ [(x, dx)], by rw [List.length_append, hl]; rfl, O.more nx ndx ne o⟩⟩
      · have xD : tl ≠ x := fun z => by rw [← z, O.eD] at nx; cases nx
        have dD : tl ≠ dx := fun z => by rw [← z, O.eD] at ndx; cases ndx
        rw [o.oth _ xD, upd_ne xD, upd_ne dD]
        exact O.eD
      · rw [List.length_map, hl]
        exact Nat.lt_of_lt_of_le hi (by decide)
    rintro H3 ⟨ts, hts, O3⟩
    refine ⟨_, rfl, m, CM, dm, _, rfl, O3.same _ _ em2, M.cl, M.nT, (by show 1 < 1000; decide), ?_⟩
    have k3 : Keep m H2 (upd H3 m (.ins CM dm (putF "timers" (.ref tl) (putF "cells" (.ref c) [])))) := (Keep.of O3.same).trans Keep.put
    have em4 : (upd H3 m (.ins CM dm (putF "timers" (.ref tl) (putF "cells" (.ref c) [])))) m = some (.ins CM dm (putF "timers" (.ref tl) (putF "cells" (.ref c) []))) := upd_same
    have nm2 : ∀ {b : Addr}, H2 b = none → b ≠ m := fun {b} nb z => by rw [z, em2] at nb; cases nb
    have et4 : (upd H3 m (.ins CM dm (putF "timers" (.ref tl) (putF "cells" (.ref c) [])))) tl = some (.lst (ts.map fun x => .ref x.1)) := by rw [upd_ne (nm2 O3.nD)]; exact O3.eD
    have ex4 : ∀ x ∈ ts, (upd H3 m (.ins CM dm (putF "timers" (.ref tl) (putF "cells" (.ref c) [])))) x.1 = some (.ins CT x.2 (timF Sf47.noTim)) := fun x hx => by rw [upd_ne (nm2 (O3.at_ x hx).1)]; exact (O3.at_ x hx).2
    generalize upd H3 m (.ins CM dm (putF "timers" (.ref tl) (putF "cells" (.ref c) []))) = H4 at k3 em4 et4 ex4 ⊢
    -- the counters
    refine ⟨_, .int 32, rfl, by decide +kernel, 32, rfl, by decide, by decide, fun cl ncl => ?_⟩
    refine lc_range (lo := 0) (n := 32) (fun i H' => ∃ cs : List (Addr × Addr), cs.length = i ∧ Objs CC (cntF Sf47.noCount) H4 H' cl cs) ⟨[], rfl, same_upd (Same.refl H4) ncl, ncl, upd_same, by simp, fun x hx => by cases hx⟩ ?_ ?_
    · rintro i H' hi ⟨cs, hl, O⟩
      refine ⟨rfl, ?_⟩
      dsimp only [tYes]
      rw [if_pos rfl]
      intro x dx nx ndx ne
      refine ⟨x, dx, rfl, upd_same, fun H3 o => ⟨rfl, cs.map (fun x => V.ref x.1), ?_, ?_, cs ++ [(x, dx)], by rw [List.length_append, hl]; rfl, O.more nx ndx ne o⟩⟩
      · have xD : cl ≠ x := fun z => by rw [← z, O.eD] at nx; cases nx
        have dD : cl ≠ dx := fun z => by rw [← z, O.eD] at ndx; cases ndx
        rw [o.oth _ xD, upd_ne xD, upd_ne dD]
        exact O.eD
      · rw [List.length_map, hl]
        exact Nat.lt_of_lt_of_le hi (by decide)
    rintro H5 ⟨cs, hcs, O5⟩
    have nm4 : ∀ {b : Addr}, H4 b = none → b ≠ m := fun {b} nb z => by rw [z, em4] at nb; cases nb
    refine ⟨_, rfl, m, CM, dm, _, rfl, O5.same _ _ em4, M.cl, M.nU, (by show 2 < 1000; decide), ?_⟩
    refine ⟨_, rfl, m, CM, dm, _, rfl, upd_same, M.cl, M.nN, (by show 3 < 1000; decide), ?_⟩
    refine ⟨_, rfl, m, CM, dm, _, rfl, upd_same, M.cl, M.nR, (by show 4 < 1000; decide), ?_⟩
    refine ⟨(by show 0 ≤ sizeLine; decide), fun pb npb => ⟨_, rfl, m, CM, dm, putF "result" .non (putF "now" (.int 0) (putF "counters" (.ref cl) (putF "timers" (.ref tl) (putF "cells" (.ref c) [])))), rfl, ?_, M.cl, M.nP, (by show 5 < 1000; decide), ?_⟩⟩
    · have pm : m ≠ pb := fun z => by rw [← z, upd_same] at npb; cases npb
      rw [upd_ne pm]
      exact upd_same
    refine ⟨_, rfl, m, CM, dm, _, rfl, upd_same, M.cl, M.nA, (by show 6 < 1000; decide), ?_⟩
    have pbm : pb ≠ m := fun z => by rw [z, upd_same] at npb; cases npb
    have npb5 : H5 pb = none := by rw [upd_ne pbm, upd_ne pbm, upd_ne pbm] at npb; exact npb
    generalize hH6 : (upd (upd (upd (upd (upd (upd H5 m (.ins CM dm (putF "counters" (.ref cl) (putF "timers" (.ref tl) (putF "cells" (.ref c) []))))) m (.ins CM dm (putF "now" (.int 0) (putF "counters" (.ref cl) (putF "timers" (.ref tl) (putF "cells" (.ref c) [])))))) m (.ins CM dm (putF "result" .non (putF "now" (.int 0) (putF "counters" (.ref cl) (putF "timers" (.ref tl) (putF "cells" (.ref c) []))))))) pb (.lst [])) m (.ins CM dm (putF "put_by" (.ref pb) (putF "result" .non (putF "now" (.int 0) (putF "counters" (.ref cl) (putF "timers" (.ref tl) (putF "cells" (.ref c) [])))))))) m (.ins CM dm (putF "at" (.int 0) (putF "put_by" (.ref pb) (putF "result" .non (putF "now" (.int 0) (putF "counters" (.ref cl) (putF "timers" (.ref tl) (putF "cells" (.ref c) []))))))))) = H6
    have em6 : H6 m = some (.ins CM dm (machF (.ref c) (.ref tl) (.ref cl) (.int 0) .non (.ref pb) (.int 0))) := by rw [← hH6, upd_same, mach_new]
    have ep6 : H6 pb = some (.lst []) := by rw [← hH6, upd_ne pbm, upd_ne pbm, upd_same]
    have k5 : Keep m H5 H6 := fun b o e n => by
      rw [← hH6, upd_ne n, upd_ne n, upd_ne (ne_of_none e npb5), upd_ne n, upd_ne n, upd_ne n]
      exact e
    have k45 : Keep m H4 H5 := Keep.of O5.same
    have k46 := k45.trans k5
    have k26 := k3.trans k46
    have k06 := k1.trans k26
    -- what was new when
    have em5 := O5.same _ _ em4
    have nH4 : ∀ {b : Addr}, H4 b = none → H2 b = none ∧ b ≠ m := fun {b} nb => k3.none em4 nb
    have nH2 : ∀ {b : Addr}, H2 b = none → H b = none ∧ b ≠ m := fun {b} nb => k1.none em2 nb
    have npb4 := (k45.none em5 npb5)
    have k24 : Keep m H2 H4 := k3
    have s1 : ∀ x ∈ c :: as, H x = none ∧ ∃ o, H2 x = some o := fun x hx => by
      rcases List.mem_cons.mp hx with e | e
      · rw [e]
        exact ⟨C1.nc, _, ec2⟩
      · obtain ⟨n, hn⟩ := List.getElem?_of_mem e
        obtain ⟨l, _, q⟩ := ea2 n x hn
        exact ⟨(C1.at_ n x hn).1, _, q⟩
    have m1' : ∀ x ∈ c :: as, x ≠ m := fun x hx => nm1 (s1 x hx).1
    have s3 : ∀ x ∈ tl :: ts.map (·.1), H2 x = none ∧ ∃ o, H4 x = some o := fun x hx => by
      rcases List.mem_cons.mp hx with e | e
      · rw [e]
        exact ⟨O3.nD, _, et4⟩
      · obtain ⟨y, hy, e⟩ := List.mem_map.mp e
        rw [← e]
        exact ⟨(O3.at_ y hy).1, _, ex4 y hy⟩
    have s5 : ∀ x ∈ cl :: cs.map (·.1), H4 x = none ∧ ∃ o, H5 x = some o := fun x hx => by
      rcases List.mem_cons.mp hx with e | e
      · rw [e]
        exact ⟨O5.nD, _, O5.eD⟩
      · obtain ⟨y, hy, e⟩ := List.mem_map.mp e
        rw [← e]
        exact ⟨(O5.at_ y hy).1, _, (O5.at_ y hy).2⟩
    refine k H6 (layOf CM CT CC dm m c as tl cl pb ts cs) ⟨rfl, rfl, rfl, lay_inj h9 hts hcs ?_⟩ rfl
      (mach_of h9 hts hcs em6 (k26 _ _ ec2 (nm1 C1.nc)) (fun k x hx => ?_) (k46 _ _ et4 (nm2 O3.nD)) (k5 _ _ O5.eD (nm4 O5.nD)) ep6 (fun x hx => k46 _ _ (ex4 x hx) (nm2 (O3.at_ x hx).1)) (fun x hx => k5 _ _ (O5.at_ x hx).2 (nm4 (O5.at_ x hx).1))) k06 ?_
    · exact all_nd C1.nd O3.nd O5.nd (fun x hx y hy => ne_of_none2 (s1 x hx).2 (s3 y hy).1) (fun x hx y hy => ne_of_none2 (k3 _ _ (s1 x hx).2.choose_spec (m1' x hx) |> fun q => ⟨_, q⟩) (s5 y hy).1) (fun x hx y hy => ne_of_none2 (s3 x hx).2 (s5 y hy).1)
        (fun x hx => ne_of_none2 (k24.trans k45 _ _ (s1 x hx).2.choose_spec (m1' x hx) |> fun q => ⟨_, q⟩) npb5) (fun x hx => ne_of_none2 (k45 _ _ (s3 x hx).2.choose_spec (nm2 (s3 x hx).1) |> fun q => ⟨_, q⟩) npb5) (fun x hx => ne_of_none2 (s5 x hx).2 npb5)
        m1' (fun x hx => nm2 (s3 x hx).1) (fun x hx => nm4 (s5 x hx).1) pbm
    · obtain ⟨l, q1, q2⟩ := ea2 k x hx
      exact ⟨l, q1, k26 _ _ q2 (nm1 (C1.at_ k x hx).1)⟩
    · intro j h0 h1
      have ln : (allOf m c as tl cl pb ts cs).length = 78 := by
        unfold allOf
        simp [h9, hts, hcs]
      have hin : (allOf m c as tl cl pb ts cs).getD j 0 ∈ c :: (as ++ tl :: cl :: pb :: (ts.map (·.1) ++ cs.map (·.1))) := by
        obtain ⟨i, rfl⟩ : ∃ i, j = i + 1 := ⟨j - 1, by omega⟩
        exact getD_mem (by have ln : (c :: (as ++ tl :: cl :: pb :: (ts.map (·.1) ++ cs.map (·.1)))).length + 1 = 78 := ln
                           omega)
      rcases all_in hin with h | h | h | h
      · exact (s1 _ h).1
      · exact (nH2 (s3 _ h).1).1
      · exact (nH2 (nH4 (s5 _ h).1).1).1
      · rw [show (layOf CM CT CC dm m c as tl cl pb ts cs).A j = pb from h]
        exact (nH2 (nH4 npb4.1).1).1
end
end Sl
set_option Elab.async false
set_option linter.all false
set_option maxRecDepth 100000
set_option maxHeartbeats 4000000
namespace SlM
open Sf47
def Err (e : Nat) : Prop := e = 1 ∨ e = 2 ∨ e = 3
theorem fit_err {z : Int} {e : Nat} (h : fit z = .error e) : Err e := by
  unfold fit at h
  split at h
  · cases h
  · cases h
    exact .inr (.inl rfl)
theorem bin_err {o : Bin} {a b : Val} {e : Nat} (h : o.run a b = .error e) : Err e := by
  unfold Bin.run at h
  split at h
  · cases h
  · unfold Arith.run at h
    split at h
    · exact fit_err h
    · exact fit_err h
    · exact fit_err h
    · split at h
      · cases h
        exact .inr (.inr rfl)
      · exact fit_err h
    · split at h
      · cases h
        exact .inr (.inr rfl)
      · exact fit_err h
  · cases h
  · cases h
    exact .inl rfl
theorem asBit_err {s : St} {e : Nat} (h : s.asBit = .error e) : Err e := by
  unfold St.asBit at h
  split at h
  · cases h
  · cases h
    exact .inl rfl
theorem asWord_err {s : St} {e : Nat} (h : s.asWord = .error e) : Err e := by
  unfold St.asWord at h
  split at h
  · cases h
  · cases h
    exact .inl rfl
theorem bind_err {α β : Type} {x : Except Nat α} {f : α → Except Nat β} {e : Nat} (h : x.bind f = .error e) : x = .error e ∨ ∃ a, x = .ok a ∧ f a = .error e := by
  cases x with
  | error e' => exact .inl (by cases h; rfl)
  | ok a => exact .inr ⟨a, rfl, h⟩
theorem map_err {α β : Type} {x : Except Nat α} {f : α → β} {e : Nat} (h : x.map f = .error e) : x = .error e := by
  cases x with
  | error e' => cases h; rfl
  | ok a => cases h
theorem run_err {p : Prog} {i : Insn} {s : St} {e : Nat} (h : s.run p i = .error e) : Err e := by
  have key : ∀ {f : Bool → Except Nat (St × Next)}, s.asBit.bind f = .error e → (∀ a, f a ≠ .error e) → Err e := fun {f} h n => by
    rcases bind_err h with q | ⟨a, _, q⟩
    · exact asBit_err q
    · exact absurd q (n a)
  cases i with
  | ld x => cases h
  | ldn b => cases h
  | st n b => exact key h fun a q => by cases q
  | stw n =>
    rcases bind_err h with q | ⟨a, _, q⟩
    · exact asWord_err q
    · cases q
  | put v b => exact key h fun a q => by cases q
  | not => exact key h fun a q => by cases q
  | bin o x =>
    unfold St.run at h
    dsimp only at h
    split at h
    · cases h
      exact .inl rfl
    · rcases bind_err h with q | ⟨a, _, q⟩
      · exact bin_err q
      · cases q
  | open_ o x =>
    unfold St.run at h
    dsimp only at h
    split at h
    · cases h
      exact .inl rfl
    · cases h
  | close =>
    unfold St.run at h
    dsimp only at h
    split at h
    · rcases bind_err h with q | ⟨a, _, q⟩
      · exact bin_err q
      · cases q
    · cases h
      exact .inl rfl
  | jmp k l =>
    cases k with
    | always => cases h
    | one => exact asBit_err (map_err h)
    | zero => exact asBit_err (map_err h)
  | ret c =>
    unfold St.run at h
    dsimp only at h
    split at h
    · exact asBit_err (map_err h)
    · cases h
  | timer k t w => exact key h fun a q => by cases q
  | ctu c w => exact key h fun a q => by cases q
  | rc c => exact key h fun a q => by cases q
  | edge up m => exact key h fun a q => by cases q
theorem dOf_le (i : Insn) (d : Nat) : dOf i d ≤ d + 1 := by
  cases i <;> first | exact Nat.le_refl _ | exact Nat.le_succ _ | (show d - 1 ≤ d + 1; omega)
theorem dep_le (c : List (Nat × Insn)) : ∀ n, dep c n ≤ n
  | 0 => Nat.le_refl _
  | n + 1 => by
    have ih := dep_le c n
    cases h : c[n]? with
    | some x =>
      rw [dep_succ h]
      have := dOf_le x.2 (dep c n)
      omega
    | none =>
      unfold dep at ih ⊢
      rw [List.take_succ, h]
      simp only [Option.toList, List.append_nil]
      omega
/-- where an instruction leads -/
theorem next_ok {p : Prog} {pc k : Nat} {i : Insn} {s s' : St} {nx : Next} (I : PInv p) (hd : p.depth = 0) (hc : p.code[pc]? = some (k, i)) (hp : s.put.length = dep p.code pc) (D : Done p i s s' nx) :
    s'.put.length = dep p.code (Sl.nextAt p (pc + 1) nx) ∧ (Sl.nextAt p (pc + 1) nx) ≤ p.code.length := by
  have hlt : pc < p.code.length := (List.getElem?_eq_some_iff.mp hc).1
  obtain ⟨_, _, hin⟩ := I.ins pc k i hc
  cases nx with
  | behind =>
    refine ⟨?_, hlt⟩
    show _ = dep p.code (pc + 1)
    rw [D.put, dep_succ hc, hp]
  | at_ q =>
    obtain ⟨kk, l, rfl, rfl⟩ := D.at_ q rfl
    have z := hin rfl
    have e : s'.put.length = 0 := by
      rw [D.put, hp, z]
      rfl
    show _ = dep p.code ((p.place l).getD 0) ∧ (p.place l).getD 0 ≤ _
    cases hq : p.place l with
    | none => exact ⟨e, Nat.zero_le _⟩
    | some n =>
      unfold Prog.place at hq
      obtain ⟨x, hx, e2⟩ := Option.map_eq_some_iff.mp hq
      obtain ⟨h1, h2⟩ := I.lab x (List.mem_of_find?_eq_some hx)
      rw [← e2]
      exact ⟨e.trans h1.symm, h2⟩
  | over_ =>
    obtain ⟨c, rfl⟩ := D.over rfl
    refine ⟨?_, Nat.le_refl _⟩
    show _ = dep p.code p.code.length
    rw [D.put, hp, hin rfl, I.fin, hd]
    rfl
theorem scan_next {s s' : St} {p : Prog} {n pc : Nat} {x : Nat × Insn} {nx : Next} (h : p.code[pc]? = some x) (hr : s.run p x.2 = .ok (s', nx)) : s.scan p (n + 1) pc = s'.scan p n (Sl.nextAt p (pc + 1) nx) := by
  rw [scan_step h, hr]
  cases nx with
  | behind => rfl
  | at_ q => rfl
  | over_ => exact (scan_end (List.getElem?_eq_none (Nat.le_refl _))).symm
end SlM
set_option Elab.async false
set_option linter.all false
set_option maxRecDepth 100000
set_option maxHeartbeats 4000000
namespace Sl
open PySem PySem.Spec PyProof.Rows L2 SlM
section
variable {P : Program} {w : World} {K : PySem.W.Frag} {mg : Str → Option Value} {base : Heap} {CF CM CT CC CS CP fM fS fP : Addr} {fdM fdS : FuncData} {fc : Nat → Addr}
/-! ### do_step -/
def spStp (CM CT CC CS : Addr) (fc : Nat → Addr) (mg : Str → Option Value) : Sp := fun vs H Q E => ∃ (L : Lay) (p : Sf47.Prog) (s : Sf47.St) (pb : List Addr) (n ln : Nat) (st : Addr) (i : Sf47.Insn) (f : Addr) (done : Nat), vs = [.ref (L.A 0), .ref st, .int done] ∧ mg (actFn i) = some (.ref f) ∧ StepIs CS L p H st ln i (.ref f) ∧
  (100000 < done → AOut fc L E H 4) ∧ (done ≤ 100000 → Act CM CT CC CS fc L p s pb n ln st i (.ref f) H Q E)
/-- each action's def keeps what the action promises -/
def Acts (P : Program) (w : World) (K : PySem.W.Frag) (mg : Str → Option Value) (base : Heap) (CM CT CC CS : Addr) (fc : Nat → Addr) : Prop := ∀ i : Sf47.Insn, ∃ (f : Addr) (R : Sf47.Insn → Prop), mg (actFn i) = some (.ref f) ∧ R i ∧ HeldF P w K mg base (L2N.CX P w) 8 f (spAct CM CT CC CS fc R)
theorem sc_stp : FnScope ["machine", "step", "done", "action"] ["machine", "step", "done"] (defScope s_do_step) := ⟨rfl, rfl, rfl, by decide +kernel, rfl, by decide +kernel, by decide +kernel⟩
theorem ok_stp {f : Addr} {fd : FuncData} (F : Fun K "do_step" "do_step" s_do_step f fd) (T : Faults K mg CF fc) (TS : STxt K mg CS fS fdS) (cB : TxtC mg "STEP_LIMIT" (.int 100000)) (hA : Acts P w K mg base CM CT CC CS fc) : FnOk P w K mg base (L2N.CX P w) 9 f fd ["machine", "step", "done"] (spStp CM CT CC CS fc mg) := by
  obtain ⟨uB, mB, rB⟩ := cB
  refine okN F sc_stp (fun vs H Q E h => ?_) (fun cdv A outer s H vs Q E hr h => ?_)
  · obtain ⟨L, p, s, pb, n, ln, st, i, f, done, rfl, _⟩ := h
    rfl
  · have hr3 : Room 3 _ := hr.mono (by decide)
    refine ⟨_, pss_cons (ps_if (pt_cmpR op_gt (pv 2) (pe_glob (by rfl) mB rB) (nomark _)) (pss_one (L2N.ps_raise rfl (L2N.takes_of rfl rfl rfl rfl) (mk_4 T hr3))) pss_nil)
      (pss_cons (ps_set (i := 3) sc_stp.nd rfl (Or.inl rfl) (pe_fld (pv 1) (by rfl)))
      (pss_one (ps_expr (pe_callF (i := 3) hr rfl (Or.inl rfl) (fun σ => L2N.passAt (L2N.takes_of rfl rfl rfl rfl) σ) (pa_cons (pv 0) (pa_cons (pv 1) pa_nil)))))), ?_⟩
    obtain ⟨L, p, s, pb, n, ln, st, i, f, done, rfl, hf, hst, kL, kA⟩ := h
    obtain ⟨ds, cl, ix, est, hcl, hout⟩ := id hst
    refine ⟨_, rfl, _, _, rfl, rfl, _, rfl, ?_⟩
    refine ite2 (fun c => fun d nd => (kL ?_).out.now nd) fun c => ?_
    · have c : (100000 : Int) < done := of_decide_eq_true c
      omega
    have c : ¬ (100000 : Int) < done := fun q => c (decide_eq_true q)
    refine ⟨_, rfl, st, _, _, _, _, rfl, est, TS.cl, TS.nA, st_action _ _ _ _ _ _ _, ?_⟩
    obtain ⟨f', R, e1, hR, hf'⟩ := hA i
    rw [hf] at e1
    cases e1
    refine ⟨f, _, rfl, hf', _, rfl, _, rfl, ?_⟩
    have A := kA (by omega)
    exact ⟨L, p, s, pb, n, ln, st, i, _, rfl, hR, A.ok, A.m, A.pu, A.st, A.oi, A.g, A.cl, A.pl, A.bad, A.good⟩
/-! ### do_scan -/
def SOut (CP : Addr) (L : Lay) (E : XK) (H : Hp) (n k : Nat) : Prop := ∀ (d : Addr) (H' : Hp), Frame L H H' → H' d = some (.xd (stpF (.int n) (.int k))) → E (.ref CP) (some d) H'
def spScan (CM CT CC CS CP : Addr) (mg : Str → Option Value) : Sp := fun vs H Q E => ∃ (L : Lay) (p : Sf47.Prog) (s : Sf47.St) (sl : Addr) (ss : List Addr), vs = [.ref (L.A 0), .ref sl] ∧ LOk CM CT CC L ∧ Mach L (pmOf s [] 0) H ∧ s.put = [] ∧ Good s ∧ PInv p ∧ p.depth = 0 ∧
  H sl = some (.lst (ss.map V.ref)) ∧ (∀ j, j < 78 → sl ≠ L.A j) ∧ Paired (fun st x => StepC CS mg L p H sl st x) ss p.code ∧
  (∀ e k, s.scan p 100000 0 = .error (e, k) → SOut CP L E H e k) ∧ (∀ s', s.scan p 100000 0 = .ok s' → Good s' → s'.put = [] → s'.now = s.now → ∀ n H', Mach L (pmOf s' [] n) H' → Frame L H H' → Q .non H')
theorem StepC.is {L : Lay} {p : Sf47.Prog} {H : Hp} {sl st : Addr} {x : Nat × Sf47.Insn} (h : StepC CS mg L p H sl st x) : ∃ f, mg (actFn x.2) = some (.ref f) ∧ StepIs CS L p H st x.1 x.2 (.ref f) := by
  obtain ⟨f, ds, cl, ix, h1, h2, h3, h4, h5⟩ := h
  exact ⟨f, h1, ds, cl, ix, h2, h3, h4⟩
theorem fault_of (T : Faults K mg CF fc) {n : Nat} (h : Err n ∨ n = 4) : ExC K (fc n) ∧ PySem.W.findIn K (.ref (fc n)) "number" = some none ∧ PySem.W.exmOne K (.ref (fc n)) (.ref CF) = some true := by
  rcases h with (rfl | rfl | rfl) | rfl
  · obtain ⟨fI, fdI, k⟩ := T.k1
    exact ⟨k.ex, k.nN, k.te⟩
  · obtain ⟨fI, fdI, k⟩ := T.k2
    exact ⟨k.ex, k.nN, k.te⟩
  · obtain ⟨fI, fdI, k⟩ := T.k3
    exact ⟨k.ex, k.nN, k.te⟩
  · obtain ⟨fI, fdI, k⟩ := T.k4
    exact ⟨k.ex, k.nN, k.te⟩
theorem at_nat {xs : List V} {n : Nat} {v : V} (h : xs[n]? = some v) : atI xs (n : Int) = some v := by
  unfold atI
  rw [ixN_at (List.getElem?_eq_some_iff.mp h).1]
  exact h
theorem fa_number (n : Int) : (faF n).lookup ("number" : Str) = some (.int n) := by kernel_rfl
def turnsOf : L2.St → Nat
  | [_, _, some (.int n), _, _] => 100001 - n.toNat
  | _ => 0
theorem sc_scn : FnScope ["machine", "steps", "done", "step", "fault"] ["machine", "steps"] (defScope s_do_scan) := ⟨rfl, rfl, rfl, by decide +kernel, rfl, by decide +kernel, by decide +kernel⟩
theorem ok_scn {f : Addr} {fd : FuncData} (F : Fun K "do_scan" "do_scan" s_do_scan f fd) (T : Faults K mg CF fc) (M : MTxt K mg CM fM fdM) (TS : STxt K mg CS fS fdS) (TP : PySem.StpX.StpTxt K mg CP fP) (hlen : mg "len" = none)
    (S : Df P w K mg base (L2N.CX P w) 9 "do_step" ["machine", "step", "done"] (spStp CM CT CC CS fc mg)) : FnOk P w K mg base (L2.CX P w) 10 f fd ["machine", "steps"] (spScan CM CT CC CS CP mg) := by
  obtain ⟨fD, fdD, mD, kD, bD, FD⟩ := S
  obtain ⟨gF, fdF, TF⟩ := T.fa
  refine okC F sc_scn (fun vs H Q E h => ?_) (fun cdv A outer s H vs Q E hr h => ?_)
  · obtain ⟨L, p, s, sl, ss, rfl, _⟩ := h
    rfl
  · have hr1 : Room 1 _ := hr.mono (by decide)
    have dp1 : (A.deeper (envOfC "do_scan" (defScope s_do_scan) s.heap.objs.size f cdv)).depth + 1 < recursionLimit := by
      have := hr1.dp
      omega
    refine ⟨_, pss_cons (ps_set (i := 2) sc_scn.nd rfl (Or.inl rfl) pe_int)
      (pss_one (ps_while PassesOwn.leaving (pt_cmpR op_lt (pe_fld (pv 0) (by rfl)) (pe_callB call_len_seq (by rfl) hlen PySem.boot_len (pa_cons (pv 1) pa_nil)) (nomark _))
        (pss_cons (ps_set (i := 3) sc_scn.nd rfl (Or.inl rfl) (pe_ix ix_list (pv 1) (pe_fld (pv 0) (by rfl)) (fun _ _ => rfl)))
        (pss_cons (ps_fldaug (pv 0) pe_int in_add)
        (pss_cons (ps_aug (i := 2) sc_scn.nd rfl (Or.inl rfl) pe_int ip_add)
        (pss_one (ps_try_asX (i := 4) (c := .ref CF) (E := E) (ts := fun a cls d => fun _ σ H => tMkStp CP (tCons (tExF K "number" a cls d (tVar 4)) (tCons (tFld K (tVar 3) "line") tNil)) σ H fun cls d H' => E cls d H') rfl rfl sc_scn.nd rfl rfl ⟨by rfl, by decide, .inl TF.gC⟩ (L2H.passesAt_of rfl) (L2.takes_of rfl rfl rfl rfl)
          (fun W pn xe tk po => pss_one (ps_expr (pe_callS FD hr (by rfl) mD kD bD (fun σ => L2N.passAt tk σ) (pa_cons (pv 0) (pa_cons (pv 3) (pa_cons (pv 2) pa_nil))))))
          (fun a oe cls d pn xe hz hf tk hot => pss_one (L2H.ps_raiseHN hot tk (pmk5_stp (X := suiteY (cxOf (L2.CX P w) P w K mg base ["machine", "steps", "done", "step", "fault"] "do_scan" (defScope s_do_scan) f cdv A outer s H E) a ((a, oe) :: pn) xe) TP dp1 (pa_cons (pe_exF (X := suiteY (cxOf (L2.CX P w) P w K mg base ["machine", "steps", "done", "step", "fault"] "do_scan" (defScope s_do_scan) f cdv A outer s H E) a ((a, oe) :: pn) xe) (List.mem_cons_self ..) hz.zc hf (pv 4)) (pa_cons (pe_fld (X := suiteY (cxOf (L2.CX P w) P w K mg base ["machine", "steps", "done", "step", "fault"] "do_scan" (defScope s_do_scan) f cdv A outer s H E) a ((a, oe) :: pn) xe) (pv 3) (by rfl)) pa_nil)))))))))))), ?_⟩
    obtain ⟨L, p, s, sl, ss, rfl, hL, hM, hput, hG, hI, hd, hsl, osl, hpr, kE, kS⟩ := h
    obtain ⟨rfl, rfl, rfl, hinj⟩ := id hL
    have ln := paired_len hpr
    refine while_by (fun σ H' => ∃ (v3 v4 : Option V) (s' : Sf47.St) (pb : List Addr) (pc done : Nat), σ = [some (.ref (L.A 0)), some (.ref sl), some (.int done), v3, v4] ∧ Mach L (pmOf s' pb pc) H' ∧ Puts H' pb s'.put ∧ Frame L H H' ∧ Good s' ∧ s'.put.length = dep p.code pc ∧ pc ≤ p.code.length ∧ s'.now = s.now ∧ done ≤ 100000 ∧ s.scan p 100000 0 = s'.scan p (100000 - done) pc)
      (fun σ _ => turnsOf σ) ⟨none, none, s, [], 0, 0, rfl, hM, ?_, Frame.refl _ _, hG, ?_, Nat.zero_le _, rfl, Nat.zero_le _, rfl⟩ ?_ ?_
    · rw [hput]
      exact .nil
    · rw [hput]
      rfl
    · rintro σ H' ⟨v3, v4, s', pb, pc, done, rfl, M', pu, fr, G, hp, hpc, hnow, hdn, hsc⟩
      have esl := fr sl _ hsl osl
      refine ⟨_, rfl, L.A 0, _, _, _, _, rfl, M' 0 (by decide), M.cl, M.nA, get_at _ _ _ _ _ _ _, _, rfl, sl, _, rfl, .inl (SqL.of esl), _, _, rfl, rfl, _, rfl, ?_⟩
      rw [List.length_map, ln]
      by_cases hlt : pc < p.code.length
      · refine if_t (decide_eq_true (by show (pc : Int) < _; omega)) ?_
        obtain ⟨st, hst⟩ : ∃ st, ss[pc]? = some st := ⟨_, List.getElem?_eq_getElem (by omega)⟩
        obtain ⟨x, hx, sc⟩ := paired_at hpr hst
        obtain ⟨k, i⟩ := x
        obtain ⟨g, hg, sti⟩ := sc.is
        refine ⟨_, rfl, _, rfl, L.A 0, _, _, _, _, rfl, M' 0 (by decide), M.cl, M.nA, get_at _ _ _ _ _ _ _, sl, ss.map V.ref, _, .ref st, rfl, rfl, SqL.of esl, at_nat (by rw [List.getElem?_map, hst]; rfl), ?_⟩
        refine ⟨_, rfl, L.A 0, _, _, _, _, rfl, M' 0 (by decide), M.cl, M.nA, get_at _ _ _ _ _ _ _, _, _, rfl, rfl, _, _, M' 0 (by decide), (by show 7 < 1000; decide), ?_⟩
        refine ⟨_, rfl, _, _, rfl, rfl, ?_⟩
        have M2 : Mach L (pmOf s' pb (pc + 1)) (upd H' (L.A 0) (.ins L.CM (L.D 0) (putF "at" (.int ((pmOf s' pb pc).at_ + 1)) (machF (.ref (L.A 1)) (.ref (L.A 11)) (.ref (L.A 12)) (.int (pmOf s' pb pc).now) (pmOf s' pb pc).res (.ref (L.A 13)) (.int (pmOf s' pb pc).at_))))) := M'.setAt hinj ((pmOf s' pb pc).at_ + 1)
        have f2 : Frame L H' (upd H' (L.A 0) (.ins L.CM (L.D 0) (putF "at" (.int ((pmOf s' pb pc).at_ + 1)) (machF (.ref (L.A 1)) (.ref (L.A 11)) (.ref (L.A 12)) (.int (pmOf s' pb pc).now) (pmOf s' pb pc).res (.ref (L.A 13)) (.int (pmOf s' pb pc).at_))))) := Frame.put (by decide)
        generalize upd H' (L.A 0) (.ins L.CM (L.D 0) (putF "at" (.int ((pmOf s' pb pc).at_ + 1)) (machF (.ref (L.A 1)) (.ref (L.A 11)) (.ref (L.A 12)) (.int (pmOf s' pb pc).now) (pmOf s' pb pc).res (.ref (L.A 13)) (.int (pmOf s' pb pc).at_)))) = H2 at M2 f2 ⊢
        have ed : ((done : Int) + 1) = ((done + 1 : Nat) : Int) := by omega
        dsimp only
        rw [ed]
        have fr2 := fr.trans f2
        have sti2 := sti.frame fr2
        have bad : ∀ (W : WX) (D : Ends), W = wAs K (.ref CF) 4 (fun a cls d => fun _ σ H => tMkStp CP (tCons (tExF K "number" a cls d (tVar 4)) (tCons (tFld K (tVar 3) "line") tNil)) σ H fun cls d H' => E cls d H') (fun _ _ _ _ => False) D → ∀ e, (Err e ∨ e = 4) → s.scan p 100000 0 = .error (e, k) → AOut fc L (fun cls d H => W cls d [some (.ref (L.A 0)), some (.ref sl), some (.int ((done + 1 : Nat) : Int)), some (.ref st), v4] H) H2 e := by
          rintro W D rfl e he hs d H3 f3 nd ed3
          obtain ⟨t1, t2, t3⟩ := fault_of T he
          obtain ⟨ds, cl, ix, est, _⟩ := sti2.frame f3
          refine ⟨true, t3, fun _ a na => ?_, fun z => by cases z⟩
          refine ⟨_, rfl, rfl, fc e, d, faF e, .int e, rfl, t1, t2, rfl, ed3, fa_number _, _, rfl, st, _, _, _, _, rfl, est, TS.cl, TS.nL, st_line _ _ _ _ _ _ _, _, _, rfl, fun d2 nd2 => ?_⟩
          exact kE e k hs d2 _ ((fr2.trans f3).trans (Frame.of_same (same_upd (Same.refl _) nd2))) upd_same
        refine ⟨_, rfl, _, rfl, _, rfl, L, p, s', pb, pc + 1, k, st, i, g, done + 1, rfl, hg, sti2, fun h100 => ?_, fun h100 => ?_⟩
        · refine bad _ _ rfl 4 (.inr rfl) (hsc.trans ?_)
          rw [show 100000 - done = 0 by omega]
          exact scan_long hx
        · obtain ⟨oi, hcl, hin⟩ := hI.ins pc k i hx
          have en : 100000 - done = (100000 - (done + 1)) + 1 := by omega
          refine ⟨hL, M2, pu.frame M' f2, sti2, oi, G, fun e z => hcl e ?_, ?_, fun e he => ?_, fun s2 nx hrun H4 pb2 M4 pu4 f4 => ?_⟩
          · rw [← hp, z]
            rfl
          · rw [hp]
            exact Nat.le_trans (dep_le _ _) (Nat.le_trans hpc hI.len)
          · refine bad _ _ rfl e (.inl (run_err he)) (hsc.trans ?_)
            rw [en, scan_step hx, he]
          · have D := run_done G oi hrun
            obtain ⟨q1, q2⟩ := next_ok hI hd hx hp D
            refine ⟨⟨_, _, s2, pb2, Sl.nextAt p (pc + 1) nx, done + 1, rfl, M4, pu4, fr2.trans f4, D.good, q1, q2, D.now.trans hnow, h100, ?_⟩, ?_⟩
            · rw [hsc, en]
              exact scan_next hx hrun
            · show 100001 - ((done + 1 : Nat) : Int).toNat < 100001 - (done : Int).toNat
              rw [Int.toNat_natCast, Int.toNat_natCast]
              omega
      · refine if_f (decide_eq_false (by show ¬ (pc : Int) < _; omega)) ?_
        have e0 : pc = p.code.length := by omega
        have e1 : s'.put.length = 0 := by rw [hp, e0, hI.fin, hd]
        have e2 : s'.put = [] := List.eq_nil_of_length_eq_zero e1
        have e3 : pb = [] := by
          rw [e2] at pu
          exact List.eq_nil_of_length_eq_zero pu.len
        rw [e3] at M'
        exact kS s' (hsc.trans (scan_end (List.getElem?_eq_none (by omega)))) G e2 hnow pc H' M' fr
    · rintro σ H' Q1 Q2 hq h
      obtain ⟨v, e1, a, C, dx, fs, v2, e2, e3, e4, e5, e6, v3, e7, b, xs, e8, e9, i, j, e10, e11, z, e12, e13⟩ := h
      exact ⟨v, e1, a, C, dx, fs, v2, e2, e3, e4, e5, e6, v3, e7, b, xs, e8, e9, i, j, e10, e11, z, e12, hq _ _ e13⟩
end
end Sl
set_option Elab.async false
set_option linter.all false
set_option maxRecDepth 100000
set_option maxHeartbeats 4000000
namespace SlM
open Sf47
theorem begin_good {ws : List Int} (hl : ws.length = 256) (hf : ∀ z ∈ ws, fits z = true) : Good (begin_ ws) :=
  ⟨List.length_replicate, List.length_replicate, hl, List.length_replicate, List.length_replicate, hf, fun t ht => by rw [List.eq_of_mem_replicate ht]; exact noTim_ok _, fun c hc => by rw [List.eq_of_mem_replicate hc]; decide, fun v e => (by cases e), fun x hx => (by cases hx)⟩
def startS (s : St) (x t : Nat) : St := { s with ins := x, now := t, res := none, put := [] }
theorem start_good {s : St} {x t : Nat} (G : Good s) (h : s.now ≤ t) : Good (startS s x t) :=
  ⟨G.q, G.m, G.w, G.t, G.c, G.wf, fun u hu => ⟨Nat.le_trans (G.tf u hu).since h, (G.tf u hu).time⟩, G.cf, fun v e => (by cases e), fun x hx => (by cases hx)⟩
theorem rises_at : ∀ {l : List Nat} {i a b : Nat}, rises l = true → l[i]? = some a → l[i + 1]? = some b → a ≤ b
  | [], i, a, b, _, h, _ => by cases h
  | [x], i, a, b, _, h1, h2 => by cases h2
  | x :: y :: r, 0, a, b, h, h1, h2 => by
    cases h1
    cases h2
    unfold rises at h
    exact of_decide_eq_true (Bool.and_eq_true_iff.mp h).1
  | x :: y :: r, i + 1, a, b, h, h1, h2 => by
    unfold rises at h
    exact rises_at (Bool.and_eq_true_iff.mp h).2 h1 h2
theorem scans_err {p : Prog} {k : Nat} {s : St} {x t : Nat} {r : List (Nat × Nat)} {e : Nat × Nat} (h : (startS s x t).scan p 100000 0 = .error e) : scans p k s ((x, t) :: r) = ([], s.words, some (e.1, k, e.2)) := by
  unfold scans
  show (match (startS s x t).scan p 100000 0 with | .error e => ([], s.words, some (e.1, k, e.2)) | .ok u => _) = _
  rw [h]
theorem scans_ok {p : Prog} {k : Nat} {s u : St} {x t : Nat} {r : List (Nat × Nat)} (h : (startS s x t).scan p 100000 0 = .ok u) : scans p k s ((x, t) :: r) = (bits u.q :: (scans p (k + 1) u r).1, (scans p (k + 1) u r).2) := by
  rw [scans]
  show (match (startS s x t).scan p 100000 0 with | .error e => ([], s.words, some (e.1, k, e.2)) | .ok u => (bits u.q :: (scans p (k + 1) u r).1, (scans p (k + 1) u r).2)) = _
  rw [h]
theorem zip_drop {l m : List Nat} {i x t : Nat} (h1 : l[i]? = some x) (h2 : m[i]? = some t) : (l.zip m).drop i = (x, t) :: (l.zip m).drop (i + 1) := by
  have hi : i < (l.zip m).length := by
    rw [List.length_zip]
    have a := (List.getElem?_eq_some_iff.mp h1).1
    have b := (List.getElem?_eq_some_iff.mp h2).1
    omega
  rw [List.drop_eq_getElem_cons hi]
  congr 1
  have e : (l.zip m)[i]? = some (x, t) := by
    rw [List.getElem?_zip_eq_some]
    exact ⟨h1, h2⟩
  rw [List.getElem?_eq_getElem hi] at e
  exact Option.some.inj e
/-- what a run ends with -/
def endL (k : Nat) : Option (Nat × Nat × Nat) → List Nat
  | none => [0, k, 0]
  | some e => [e.1, e.2.1, e.2.2]
end SlM
namespace Sl
open PySem PySem.Spec PyProof.Rows L2 SlM
theorem StepC.frame {CS : Addr} {mg : Str → Option Value} {L : Lay} {p : Sf47.Prog} {H H' : Hp} {sl st : Addr} {x : Nat × Sf47.Insn} (h : StepC CS mg L p H sl st x) (f : Frame L H H') : StepC CS mg L p H' sl st x := by
  obtain ⟨g, ds, cl, ix, h1, h2, h3, h4, h5⟩ := h
  exact ⟨g, ds, cl, ix, h1, f _ _ h2 h4, fun y hy => (h3 y hy).frame f, h4, h5⟩
theorem st_number (v1 v2 : V) : (stpF v1 v2).lookup ("number" : Str) = some v1 := by kernel_rfl
theorem st_lineS (v1 v2 : V) : (stpF v1 v2).lookup ("line" : Str) = some v2 := by kernel_rfl
theorem Frame.seq {K : PySem.W.Frag} {L : Lay} {H H1 H' : Hp} (s : Same H H1) (f : Frame L H1 H') (n : ∀ j, j < 78 → H (L.A j) = none) : Same H H' := fun b o e => f b o (s b o e) fun j hj z => by rw [z, n j hj] at e; cases e
section
variable {P : Program} {w : World} {K : PySem.W.Frag} {mg : Str → Option Value} {base : Heap} {CL CF CM CT CC CS CP fM fS fP fT fC fL : Addr} {fdM fdS fdT fdC fdL : FuncData} {fc : Nat → Addr}
def rLn (K : PySem.W.Frag) : List V → Hp → VK → Prop := fun xs H Q => ∃ p ys, xs = [.ref p] ∧ (SqL K H p ys ∨ SqT K H p ys) ∧ Q (.int ys.length) H
def natV (l : List Nat) : List V := l.map fun (n : Nat) => .int (n : Int)
theorem natV_at {l : List Nat} {i : Nat} {v : V} (h : (natV l)[i]? = some v) : ∃ n : Nat, l[i]? = some n ∧ v = .int n := by
  unfold natV at h
  rw [List.getElem?_map] at h
  obtain ⟨n, hn, rfl⟩ := Option.map_eq_some_iff.mp h
  exact ⟨n, hn, rfl⟩
def spScans (K : PySem.W.Frag) (CL : Addr) : Sp := fun vs H Q _ => ∃ (a ia ta wa : Addr) (pls : List PLine) (ins tms : List Nat) (ws : List Int), vs = [.ref a, .ref ia, .ref ta, .ref wa] ∧ LinesAt CL H a pls ∧ pls.length ≤ 70000 ∧ (∀ j, j < pls.length → ¬ Bad pls j) ∧ PInv (prog pls 0) ∧ (prog pls 0).depth = 0 ∧
  SqL K H ia (natV ins) ∧ SqL K H ta (natV tms) ∧ tms.length = ins.length ∧ ins.length ≤ 65536 ∧ Sf47.rises tms = true ∧ SqL K H wa (ws.map V.int) ∧ ws.length = 256 ∧ (∀ z ∈ ws, Sf47.fits z = true) ∧
  ((Sf47.scans (prog pls 0) 0 (Sf47.begin_ ws) (ins.zip tms)).1.length ≤ 65536 → (Sf47.scans (prog pls 0) 0 (Sf47.begin_ ws) (ins.zip tms)).2.1.length = 256 → ∀ H' T o wd en, H' T = some (.tup [.ref o, .ref wd, .ref en]) → H' o = some (.lst (natV (Sf47.scans (prog pls 0) 0 (Sf47.begin_ ws) (ins.zip tms)).1)) → H' wd = some (.lst ((Sf47.scans (prog pls 0) 0 (Sf47.begin_ ws) (ins.zip tms)).2.1.map V.int)) →
    H' en = some (.lst (natV (endL ins.length (Sf47.scans (prog pls 0) 0 (Sf47.begin_ ws) (ins.zip tms)).2.2))) → Q (.ref T) H')
theorem b_mci (M : MTxt K mg CM fM fdM) : Binds K fdM ["self", "words"] [] := M.fi.binds fun _ _ _ _ _ _ us hl => match us, hl with | [_, _], _ => rfl
theorem sc_scs : FnScope ["lines", "inputs", "times", "words", "machine", "steps", "outputs", "bits", "now", "words_before", "stop"] ["lines", "inputs", "times", "words"] (defScope s_do_scans) := ⟨rfl, rfl, rfl, by decide +kernel, rfl, by decide +kernel, by decide +kernel⟩
theorem ok_scs {f : Addr} {fd : FuncData} (F : Fun K "do_scans" "do_scans" s_do_scans f fd) (M : MTxt K mg CM fM fdM) (TT : TimTxt K mg CT fT fdT) (TC : CntTxt K mg CC fC fdC) (TP : PySem.StpX.StpTxt K mg CP fP) (hte : PySem.W.exmOne K (.ref CP) (.ref CP) = some true) (hlen : mg "len" = none) (hzip : mg "zip" = none) (hrg : mg "range" = none)
    (Z : Df P w K mg base CX0 1 "size_of" ["kind"] spSize) (C : Df P w K mg base CX0 2 "new_cells" ["words"] (spCells K))
    (S : Df P w K mg base CX0 3 "steps_of" ["lines", "cells"] (spSteps CL CS mg)) (W : Df P w K mg base CX0 1 "words_of" ["machine"] (spWds CM CT CC)) (B : Df P w K mg base CX0 2 "begin_scan" ["machine", "bits", "now"] (spBeg CM CT CC)) (O : Df P w K mg base CX0 1 "output_of" ["machine"] (spOut CM CT CC))
    (D : Df P w K mg base (L2.CX P w) 10 "do_scan" ["machine", "steps"] (spScan CM CT CC CS CP mg)) : FnOk P w K mg base CX0 11 f fd ["lines", "inputs", "times", "words"] (spScans K CL) := by
  obtain ⟨fW, fdW, mW, kW, bW, FW⟩ := W
  obtain ⟨fB, fdB, mB, kB, bB, FB⟩ := B
  obtain ⟨fO, fdO, mO, kO, bO, FO⟩ := O
  obtain ⟨fG, fdG, mG, kG, bG, FG⟩ := S
  obtain ⟨fD, fdD, mD, kD, bD, FD⟩ := D
  refine F.ok sc_scs (fun vs H Q E h => ?_) (fun cdv A outer s H vs Q E hr h => ?_)
  · obtain ⟨a, ia, ta, wa, pls, ins, tms, ws, rfl, _⟩ := h
    rfl
  · have hr1 : Room 1 _ := hr.mono (by decide)
    have hr2 : Room 2 _ := hr.mono (by decide)
    have hr3 : Room 3 _ := hr.mono (by decide)
    have hr4 : Room 4 _ := hr.mono (by decide)
    refine ⟨_, pss_cons (ps_set (i := 4) sc_scs.nd rfl (Or.inl rfl) (pe_make M.mkC (ok_mci M TT TC hrg Z C) hr4 rfl M.gC (b_mci M) .nil pass0 (pa_cons (pv 3) pa_nil)))
      (pss_cons (ps_set (i := 5) sc_scs.nd rfl (Or.inl rfl) (pe_call FG hr3 (by rfl) mG kG bG .nil pass0 (pa_cons (pv 0) (pa_cons (pe_fld (pv 4) (by rfl)) pa_nil))))
      (pss_cons (ps_set (i := 6) sc_scs.nd rfl (Or.inl rfl) (pe_lst pa_nil))
      (pss_cons (ps_for PassesOwn.never rfl (pi_zip (by rfl) hzip (pa_cons (pv 1) (pa_cons (pv 2) pa_nil))) (pg_tup rfl (pgs_cons (pg_name (i := 7) sc_scs.nd rfl (Or.inl rfl)) (pgs_cons (pg_name (i := 8) sc_scs.nd rfl (Or.inl rfl)) pgs_nil)))
        (pss_cons (ps_set (i := 9) sc_scs.nd rfl (Or.inl rfl) (pe_call FW hr1 (by rfl) mW kW bW .nil pass0 (pa_cons (pv 4) pa_nil)))
        (pss_cons (ps_expr (pe_call FB hr2 (by rfl) mB kB bB .nil pass0 (pa_cons (pv 4) (pa_cons (pv 7) (pa_cons (pv 8) pa_nil)))))
        (pss_cons (ps_try_as (i := 10) (c := .ref CP) (Wout := fun _ _ _ _ => False) (ts := fun a cls d => tRet (tTup (tCons (tVar 6) (tCons (tVar 9) (tCons (tLst (tCons (tExF K "number" a cls d (tVar 10)) (tCons (tCB (rLn K) (tCons (tVar 6) tNil)) (tCons (tExF K "line" a cls d (tVar 10)) tNil)))) tNil))))) rfl rfl sc_scs.nd rfl rfl ⟨by rfl, by decide, .inl TP.gC⟩ takes0
          (fun W pn xe tk po => pss_one (ps_expr (pe_callS FD hr (by rfl) mD kD bD (fun σ => L2.passAt tk σ) (pa_cons (pv 4) (pa_cons (pv 5) pa_nil)))))
          (fun a oe cls d pn hz hf => pss_one (ps_ret (pe_tup (pa_cons (pv 6) (pa_cons (pv 9) (pa_cons (pe_lst (pa_cons (pe_exF (X := Cx.suite (cxOf CX0 P w K mg base ["lines", "inputs", "times", "words", "machine", "steps", "outputs", "bits", "now", "words_before", "stop"] "do_scans" (defScope s_do_scans) f cdv A outer s H E) a ((a, oe) :: pn)) (List.mem_cons_self ..) hz hf (pv 10)) (pa_cons (pe_callB call_len_seq (by rfl) hlen PySem.boot_len (pa_cons (pv 6) pa_nil)) (pa_cons (pe_exF (X := Cx.suite (cxOf CX0 P w K mg base ["lines", "inputs", "times", "words", "machine", "steps", "outputs", "bits", "now", "words_before", "stop"] "do_scans" (defScope s_do_scans) f cdv A outer s H E) a ((a, oe) :: pn)) (List.mem_cons_self ..) hz hf (pv 10)) pa_nil)))) pa_nil)))))))
        (pss_one (ps_expr (pe_bm PySem.F.plainAttrs_list PySem.F.slot_list_append PySem.F.type_list_append mt_append (pv 6) (pa_cons (pe_call FO hr1 (by rfl) mO kO bO .nil pass0 (pa_cons (pv 4) pa_nil)) pa_nil))))))))
      (pss_one (ps_ret (pe_tup (pa_cons (pv 6) (pa_cons (pe_call FW hr1 (by rfl) mW kW bW .nil pass0 (pa_cons (pv 4) pa_nil)) (pa_cons (pe_lst (pa_cons pe_int (pa_cons (pe_callB call_len_seq (by rfl) hlen PySem.boot_len (pa_cons (pv 6) pa_nil)) (pa_cons pe_int pa_nil)))) pa_nil))))))))), ?_⟩
    obtain ⟨a, ia, ta, wa, pls, ins, tms, ws, rfl, hL, hpl, hbad, hI, hd, hia, hta, hlen2, hmax, hris, hwa, hw, hwf, k⟩ := h
    refine ⟨_, rfl, fun x dx nx ndx ne => ?_⟩
    have s0 : Same H (upd (upd H dx (.own x)) x (.ins CM dx [])) := same_upd (same_upd (Same.refl H) ndx) nx
    refine ⟨x, dx, wa, ws, rfl, upd_same, s0.seq hwa, by rw [hw]; decide, fun Hm L hLo hA0 hM hK hnew => ⟨rfl, ?_⟩⟩
    have sm : Same H Hm := fun b o e => hK b o (s0 b o e) (ne_of_none e nx)
    have nA : ∀ j, j < 78 → H (L.A j) = none := fun j hj => by
      by_cases z : j = 0
      · rw [z, hA0]
        exact nx
      · exact s0.free (hnew j (by omega) hj)
    subst hA0
    obtain ⟨rfl, rfl, rfl, hinj⟩ := id hLo
    refine ⟨_, rfl, _, rfl, L.A 0, _, _, _, _, rfl, hM 0 (by decide), M.cl, M.nC, get_cells _ _ _ _ _ _ _, L, _, a, pls, rfl, lines_same sm hL, hpl, hbad, hM, fun H1 sl ss s1 nsl esl osl hpr => ?_⟩
    refine ⟨(by show 0 ≤ sizeLine; decide), fun ol nol => ?_⟩
    have s01 := sm.trans s1
    have M1 := hM.same s1
    have ool : ∀ j, j < 78 → ol ≠ L.A j := M1.out nol
    have sq : ∀ {H' : Hp}, Frame L H1 H' → Same H H' := fun {H'} f => Frame.seq (K := K) s01 f nA
    have f0 : Frame L H1 (upd H1 ol (.lst [])) := Frame.new M1 nol
    refine ⟨_, rfl, _, rfl, ia, ta, natV ins, natV tms, rfl, (sq f0).seq hia, (sq f0).seq hta, ?_⟩
    have lenI : (natV ins).length = ins.length := List.length_map _
    have lenT : (natV tms).length = tms.length := List.length_map _
    refine for_it (walk_zip (K := K) (a := ia) (b := ta) (xs := natV ins) (ys := natV tms) (n := ins.length) (by rw [lenI, lenT, hlen2, Nat.min_self])) (fun i σ H' => ∃ (v7 v8 v9 v10 : Option V) (s' : Sf47.St) (n : Nat) (outs : List Nat), σ = [some (.ref a), some (.ref ia), some (.ref ta), some (.ref wa), some (.ref (L.A 0)), some (.ref sl), some (.ref ol), v7, v8, v9, v10] ∧ Mach L (pmOf s' [] n) H' ∧ Good s' ∧ Frame L H1 H' ∧ H' ol = some (.lst (natV outs)) ∧ outs.length = i ∧ (∀ t, tms[i]? = some t → s'.now ≤ t) ∧
        Sf47.scans (prog pls 0) 0 (Sf47.begin_ ws) (ins.zip tms) = (outs ++ (Sf47.scans (prog pls 0) i s' ((ins.zip tms).drop i)).1, (Sf47.scans (prog pls 0) i s' ((ins.zip tms).drop i)).2))
      ⟨none, none, none, none, Sf47.begin_ ws, 0, [], rfl, M1.new nol, begin_good hw hwf, f0, upd_same, rfl, fun t _ => Nat.zero_le _, rfl⟩ ?_ ?_ ?_
    · rintro i σ H' _ ⟨v7, v8, v9, v10, s', n, outs, rfl, _, _, fr, _⟩
      exact ⟨(sq fr).seq hia, (sq fr).seq hta⟩
    · rintro i x σ H2 H3 hi ⟨v7, v8, v9, v10, s', n, outs, rfl, M2, G, fr2, eo2, ho, hnow, hsc⟩ ⟨T, x, z, rfl, nT, rfl, hx, hz⟩
      obtain ⟨bits, hb, rfl⟩ := natV_at hx
      obtain ⟨tm, ht, rfl⟩ := natV_at hz
      refine ⟨T, _, rfl, .inl (.inl upd_same), rfl, _, _, rfl, _, _, rfl, rfl, ?_⟩
      have f23 : Frame L H2 (upd H2 T (.tup [.int bits, .int tm])) := Frame.new M2 nT
      have M3 : Mach L (pmOf s' [] n) (upd H2 T (.tup [.int bits, .int tm])) := M2.new nT
      generalize upd H2 T (.tup [.int bits, .int tm]) = H3 at f23 M3 ⊢
      refine ⟨_, rfl, L, pmOf s' [] n, rfl, hLo, M3, fun wl nwl => ?_⟩
      have owl := M3.out nwl
      have f34 : Frame L H3 (upd H3 wl (.lst (pmOf s' [] n).w)) := Frame.new M3 nwl
      have M4 : Mach L (pmOf s' [] n) (upd H3 wl (.lst (pmOf s' [] n).w)) := M3.new nwl
      have ew4 : (upd H3 wl (.lst (pmOf s' [] n).w)) wl = some (.lst (s'.words.map V.int)) := upd_same
      generalize upd H3 wl (.lst (pmOf s' [] n).w) = H4 at f34 M4 ew4 ⊢
      refine ⟨_, rfl, _, rfl, _, rfl, L, pmOf s' [] n, bits, tm, rfl, hLo, M4, (by show ((List.range 64).map _).length = 64; rw [List.length_map, List.length_range]), fun H5 M5 f5 => ?_⟩
      have M5 : Mach L (pmOf (startS s' bits tm) [] 0) H5 := M5
      have f25 := (f23.trans f34).trans f5
      have f15 := fr2.trans f25
      have hzd := zip_drop hb ht
      rw [hzd] at hsc
      refine ⟨_, rfl, _, rfl, L, prog pls 0, startS s' bits tm, sl, ss, rfl, hLo, M5, rfl, start_good G (hnow tm ht), hI, hd, f15 _ _ esl osl, osl, Paired.mapP hpr (fun st x h => h.frame f15), fun e kk he d H6 f6 ed6 => ?_, fun s2 he G2 hput hnow2 n2 H6 M6 f6 => ?_⟩
      · refine ⟨true, hte, fun _ x nx => ?_, fun z => by cases z⟩
        have f26 := f25.trans f6
        have eo6 := f26 _ _ eo2 ool
        have ew6 := (f5.trans f6) _ _ ew4 owl
        refine ⟨_, rfl, _, rfl, _, rfl, rfl, CP, d, _, _, rfl, TP.ex, TP.noN, rfl, ed6, st_number _ _, _, rfl, ol, natV outs, rfl, .inl (SqL.of eo6), _, rfl, rfl, CP, d, _, _, rfl, TP.ex, TP.noL, rfl, ed6, st_lineS _ _, (by show 3 ≤ sizeLine; decide), fun en nen => ⟨(by show 3 ≤ sizeLine; decide), fun T2 nT2 => ?_⟩⟩
        rw [scans_err he] at hsc
        refine k (by rw [hsc, List.append_nil, ho]; omega) (by rw [hsc]; exact G.w) _ T2 ol wl en upd_same ?_ ?_ ?_
        · rw [upd_ne (ne_of_none (by rw [upd_ne (ne_of_none eo6 nen)]; exact eo6) nT2), upd_ne (ne_of_none eo6 nen), eo6, hsc, List.append_nil]
        · rw [upd_ne (ne_of_none (by rw [upd_ne (ne_of_none ew6 nen)]; exact ew6) nT2), upd_ne (ne_of_none ew6 nen), ew6, hsc]
        · rw [upd_ne (ne_of_none upd_same nT2), upd_same, hsc]
          show some (HO.lst [.int e, .int ((natV outs).length : Nat), .int kk]) = some (HO.lst [.int e, .int (i : Nat), .int kk])
          rw [show (natV outs).length = i from (List.length_map _).trans ho]
      · have f26 := f25.trans f6
        have eo6 := f26 _ _ eo2 ool
        have f16 := fr2.trans f26
        refine ⟨_, rfl, .inl ⟨rfl, _, SqL.of eo6⟩, _, rfl, L, pmOf s2 [] n2, s2.q, rfl, hLo, M6, rfl, ol, _, _, rfl, rfl, eo6, ?_, ?_⟩
        · rw [show (natV outs).length = i from (List.length_map _).trans ho]
          exact Nat.lt_of_lt_of_le hi (Nat.le_trans hmax (by decide))
        · rw [scans_ok he] at hsc
          refine ⟨_, _, _, _, s2, n2, outs ++ [Sf47.bits s2.q], rfl, M6.putO ool, G2, fun b o e nb => by rw [upd_ne (ne_of_none e nol)]; exact f16 b o e nb, ?_, by rw [List.length_append, ho]; rfl, fun t e => ?_, ?_⟩
          · rw [upd_same]
            unfold natV
            rw [List.map_append]
            rfl
          · rw [hnow2]
            exact rises_at hris ht e
          · rw [hsc, List.append_assoc]
            rfl
    · rintro σ H' ⟨v7, v8, v9, v10, s', n, outs, rfl, M2, G, fr2, eo2, ho, hnow, hsc⟩
      refine ⟨_, rfl, _, rfl, L, pmOf s' [] n, rfl, hLo, M2, fun wl nwl => ?_⟩
      have ew : (upd H' wl (.lst (pmOf s' [] n).w)) wl = some (.lst (s'.words.map V.int)) := upd_same
      have eo : (upd H' wl (.lst (pmOf s' [] n).w)) ol = some (.lst (natV outs)) := by rw [upd_ne (ne_of_none eo2 nwl)]; exact eo2
      generalize upd H' wl (.lst (pmOf s' [] n).w) = H3 at ew eo ⊢
      refine ⟨_, rfl, ol, natV outs, rfl, .inl (SqL.of eo), (by show 3 ≤ sizeLine; decide), fun en nen => ⟨(by show 3 ≤ sizeLine; decide), fun T2 nT2 => ?_⟩⟩
      rw [List.drop_of_length_le (by rw [List.length_zip, hlen2, Nat.min_self]; exact Nat.le_refl _)] at hsc
      have hsc : Sf47.scans (prog pls 0) 0 (Sf47.begin_ ws) (ins.zip tms) = (outs ++ [], s'.words, none) := hsc.trans (by rw [Sf47.scans])
      refine k (by rw [hsc, List.append_nil, ho]; exact hmax) (by rw [hsc]; exact G.w) _ T2 ol wl en upd_same ?_ ?_ ?_
      · rw [upd_ne (ne_of_none (by rw [upd_ne (ne_of_none eo nen)]; exact eo) nT2), upd_ne (ne_of_none eo nen), eo, hsc, List.append_nil]
      · rw [upd_ne (ne_of_none (by rw [upd_ne (ne_of_none ew nen)]; exact ew) nT2), upd_ne (ne_of_none ew nen), ew, hsc]
      · rw [upd_ne (ne_of_none upd_same nT2), upd_same, hsc]
        show some (HO.lst [.int 0, .int ((natV outs).length : Nat), .int 0]) = some (HO.lst [.int ((0 : Nat) : Int), .int (ins.length : Nat), .int ((0 : Nat) : Int)])
        rw [show (natV outs).length = ins.length from (List.length_map _).trans ho]
        rfl
end
end Sl
set_option Elab.async false
set_option linter.all false
set_option maxRecDepth 100000
set_option maxHeartbeats 4000000
namespace PySem
open PyProof PySem.AutoSeq1
theorem ext_gen (l : Addr) (items : Array Value) (n : Nat) (b : Addr) (items2 : Array Value) (n2 : Nat) (sl2 : Array (Option Value)) (hc0 : ¬(!items.isEmpty && Builtin.List.listTooLong (items.size + items2.size)) = true) (hc1 : items.size ≤ sizeLine) (hs2 : items.size + items2.size ≤ sizeLine + 1) :
    Meets (Builtin.«list.extend» ⟨[.ref l, .ref b], []⟩) (fun _ R s => s.heap.get? l = some { cls := .type "list", dict := none, data := .seq items n, slots := #[] } ∧ s.heap.get? b = some { cls := .type "list", dict := none, data := .seq items2 n2, slots := sl2 } ∧ R (.ok (.ret Value.none)) { s with heap := s.heap.update l (Obj.mapSeq fun x => x ++ items2), toks := s.toks }) :=
  Meets.of_wp fun prog w A R ⟨hp, g, d, tk, os⟩ ⟨hl, hb, h⟩ => by
    have both : (items ++ items2).size ≤ sizeLine + 1 := by simpa using hs2
    have lists := sub_list_list
    wp_walk using wpAny_loadPart' hb, wpAny_loadPart' hl, (wpAny_updateSeq hl rfl (hz := hc1) (_hz' := both))
    exact ⟨_, rfl, h⟩
end PySem
namespace Sl
open PySem PySem.Spec PyProof.Rows L2 SlM
/-! ### xs.extend(ys), ys any list that is read -/
def rExtS (K : PySem.W.Frag) : V → List V → Hp → VK → Prop := fun x vs H Q => ∃ l b xs zs, x = .ref l ∧ vs = [.ref b] ∧ H l = some (.lst xs) ∧ SqL K H b zs ∧ xs.length + zs.length ≤ sizeLine ∧ Q .non (upd H l (.lst (xs ++ zs)))
theorem mt_extS {X : Cx} : MtM X "list.extend" (rExtS X.K) := by
  rintro pins s σ H _ _ v us Q I rx rv ⟨l, b, xs, zs, rfl, rfl, own, read, fits, q⟩
  rcases rv.one with ⟨_, rfl, ru⟩
  cases rx
  cases ru
  rcases I.lstM own with ⟨_, its, n, rel, len, there⟩
  rcases I.list read with ⟨more, relM, ⟨⟨_, _, _, slots⟩, m, thereM, rfl, rfl, rfl⟩, _⟩
  have lenM := relM.length
  have room : its.toArray.size + more.toArray.size ≤ sizeLine := by
    simp only [List.size_toArray]
    omega
  have short : (!its.toArray.isEmpty && Builtin.List.listTooLong (its.toArray.size + more.toArray.size)) = false := by rw [notLongL room, Bool.and_false]
  have meets := ext_gen l its.toArray n b more.toArray m slots (by rw [short]; decide) (by simp only [List.size_toArray]; omega) (by omega)
  refine call_meets F.slot_list_extend ⟨_, there, rfl⟩ F.entry_list_extend (F.args_list_extend_2 _ _) meets ⟨there, thereM, .non, _, I.lset (its' := its ++ more) own there (by simp) (rel.append relM) ?_, rfl, q⟩
  simpa [← len, ← lenM] using fits
section
variable {P : Program} {w : World} {K : PySem.W.Frag} {mg : Str → Option Value} {base : Heap}
/-! ### times_fall -/
def fallsB (l : List Nat) : List Bool := (List.range (l.length - 1)).map fun i => decide (l.getD (i + 1) 0 < l.getD i 0)
theorem falls_any : ∀ l : List Nat, (fallsB l).any id = !Sf47.rises l
  | [] => rfl
  | [x] => rfl
  | x :: y :: r => by
    have ih := falls_any (y :: r)
    unfold fallsB at ih ⊢
    unfold Sf47.rises
    have e : (x :: y :: r).length - 1 = ((y :: r).length - 1) + 1 := rfl
    rw [e, List.range_succ_eq_map, List.map_cons, List.map_map, List.any_cons, Bool.not_and]
    have e2 : ((fun i => decide ((x :: y :: r).getD (i + 1) 0 < (x :: y :: r).getD i 0)) ∘ Nat.succ) = fun i => decide ((y :: r).getD (i + 1) 0 < (y :: r).getD i 0) := rfl
    rw [e2, ih]
    congr 1
    show decide (y < x) = !decide (x ≤ y)
    by_cases h : x ≤ y
    · rw [decide_eq_true h, decide_eq_false (by omega)]
      rfl
    · rw [decide_eq_false h, decide_eq_true (by omega)]
      rfl
def spFall (K : PySem.W.Frag) : Sp := fun vs H Q _ => ∃ (a : Addr) (l : List Nat), vs = [.ref a] ∧ SqL K H a (natV l) ∧ l.length ≤ 65536 ∧ ∀ H', Same H H' → Q (.bl (!Sf47.rises l)) H'
theorem sc_tfl : FnScope ["times", "before", "after"] ["times"] (defScope s_times_fall) := ⟨rfl, rfl, rfl, by decide +kernel, rfl, by decide +kernel, by decide +kernel⟩
theorem ok_tfl {f : Addr} {fd : FuncData} (F : Fun K "times_fall" "times_fall" s_times_fall f fd) (hany : mg "any" = none) (hzip : mg "zip" = none) : FnOk P w K mg base CX0 1 f fd ["times"] (spFall K) := by
  refine F.ok sc_tfl (fun vs H Q E h => ?_) (fun cdv A outer s H vs Q E hr h => ?_)
  · obtain ⟨a, l, rfl, _⟩ := h
    rfl
  · refine ⟨_, pss_one (ps_ret (pe_callB (cr_any rfl) (by rfl) hany PyProof.Rows.boot_any (pa_cons (pe_lc (own := [("before", 1), ("after", 2)]) (g := gTup K 2 (gCons (gName 1) (gCons (gName 2) gNil))) (tt := tYes) (te := tOp (rI0 fun i j => .bl (decide (j < i))) (tVar 1) (tVar 2)) rfl sc_tfl.nd (pi_zip (by rfl) hzip (pa_cons (pv 0) (pa_cons (pe_slice sl_list (pv 0) (po_some pe_int) po_none) pa_nil)))
        (blkOk_by (own := [("before", 1), ("after", 2)]) (N := ["times", "before", "after"]) (sc := defScope s_times_fall) (by decide +kernel))
        (fun _ _ _ _ _ => pg_tup rfl (pgs_cons (pg_name (i := 1) sc_tfl.nd rfl (Or.inl rfl)) (pgs_cons (pg_name (i := 2) sc_tfl.nd rfl (Or.inl rfl)) pgs_nil)))
        (fun _ _ _ _ _ => pts_nil) (fun _ _ _ _ _ => pe_cmpR op_gt (pv 1) (pv 2) (nomark _))) pa_nil))), ?_⟩
    obtain ⟨a, l, rfl, hS, hl, q⟩ := h
    refine ⟨_, rfl, _, rfl, _, rfl, a, natV l, rfl, hS, fun p np => ?_⟩
    have e1 : cutV (natV l) (some 1) none = natV (l.drop 1) := by
      rw [show (some 1 : Option Int) = some ((1 : Nat) : Int) from rfl, cut_drop]
      unfold natV
      rw [List.map_drop]
    rw [e1]
    have sp : Same H (upd H p (.lst (natV (l.drop 1)))) := same_upd (Same.refl H) np
    have ep : (upd H p (.lst (natV (l.drop 1)))) p = some (.lst (natV (l.drop 1))) := upd_same
    generalize upd H p (.lst (natV (l.drop 1))) = H1 at sp ep ⊢
    refine ⟨a, p, natV l, natV (l.drop 1), rfl, sp.seq hS, SqL.of ep, fun D nD => ?_⟩
    have ln : (natV l).length = l.length := List.length_map _
    have ln1 : (natV (l.drop 1)).length = l.length - 1 := (List.length_map _).trans (List.length_drop ..)
    have lf : (fallsB l).length = l.length - 1 := (List.length_map _).trans List.length_range
    refine lc_it (walk_zip (K := K) (a := a) (b := p) (xs := natV l) (ys := natV (l.drop 1)) (n := l.length - 1) (by rw [ln, ln1]; omega)) (fun i H' => Same H1 H' ∧ H' D = some (.lst (((fallsB l).take i).map V.bl)))
      ⟨same_upd (Same.refl H1) nD, upd_same⟩ (fun i H' _ h => ⟨(sp.trans h.1).seq hS, SqL.of (h.1 _ _ ep)⟩) ?_ ?_
    · rintro i x H2 H3 hi ⟨s2, eD⟩ ⟨T, x, z, rfl, nT, rfl, hx, hz⟩
      obtain ⟨n1, h1, rfl⟩ := natV_at hx
      obtain ⟨n2, h2, rfl⟩ := natV_at hz
      rw [List.getElem?_drop] at h2
      have h2 : l[i + 1]? = some n2 := by rw [Nat.add_comm]; exact h2
      refine ⟨T, _, rfl, .inl (.inl upd_same), rfl, _, _, rfl, _, _, rfl, rfl, ?_⟩
      refine ⟨rfl, ?_⟩
      dsimp only [tYes]
      rw [if_pos rfl]
      have neD : D ≠ T := ne_of_none eD nT
      refine ⟨_, rfl, _, rfl, _, _, rfl, rfl, ((fallsB l).take i).map V.bl, by rw [upd_ne neD]; exact eD, ?_, ?_, ?_⟩
      · rw [List.length_map, List.length_take]
        have : (65536 : Nat) ≤ sizeLine := by decide
        omega
      · have nDH : H1 D = none := nD
        intro b o e
        rw [upd_ne (ne_of_none e nD), upd_ne (ne_of_none (s2 _ _ e) nT)]
        exact s2 _ _ e
      · rw [upd_same, List.take_succ, List.map_append]
        have e3 : (fallsB l)[i]? = some (decide (n2 < n1)) := by
          unfold fallsB
          rw [List.getElem?_map, List.getElem?_range (by omega)]
          show some (decide (l.getD (i + 1) 0 < l.getD i 0)) = _
          rw [List.getD_eq_getElem?_getD, List.getD_eq_getElem?_getD, h1, h2]
          rfl
        rw [e3]
        have e4 : decide ((n2 : Int) < (n1 : Int)) = decide (n2 < n1) := by
          by_cases c : n2 < n1
          · rw [decide_eq_true c, decide_eq_true (by omega)]
          · rw [decide_eq_false c, decide_eq_false (by omega)]
        show some (HO.lst (List.map V.bl (List.take i (fallsB l)) ++ [V.bl (decide ((n2 : Int) < (n1 : Int)))])) = _
        rw [e4]
        rfl
    · rintro H2 ⟨s2, eD⟩
      rw [List.take_of_length_le (by rw [lf]; exact Nat.le_refl _)] at eD
      refine ⟨D, fallsB l, rfl, SqL.of eD, ?_⟩
      rw [falls_any]
      exact q H2 (sp.trans s2)
/-! ### answer_of -/
def partsL (l : List (List Int)) : List Int := l.flatMap fun r => (r.length : Int) :: r
def spAns (K : PySem.W.Frag) : Sp := fun vs H Q _ => ∃ (n : Int) (a b c : Addr) (xs ys zs : List Int), vs = [.int n, .ref a, .ref b, .ref c] ∧ SqL K H a (xs.map V.int) ∧ SqL K H b (ys.map V.int) ∧ SqL K H c (zs.map V.int) ∧ xs.length ≤ 70000 ∧ ys.length ≤ 70000 ∧ zs.length ≤ 70000 ∧
  ∀ H' p, H' p = some (.lst ((n :: partsL [xs, ys, zs]).map V.int)) → Q (.ref p) H'
theorem sc_ans : FnScope ["number", "outputs", "words", "ending", "answer", "part"] ["number", "outputs", "words", "ending"] (defScope s_answer_of) := ⟨rfl, rfl, rfl, by decide +kernel, rfl, by decide +kernel, by decide +kernel⟩
theorem ok_ans {f : Addr} {fd : FuncData} (F : Fun K "answer_of" "answer_of" s_answer_of f fd) (hlen : mg "len" = none) : FnOk P w K mg base CX0 1 f fd ["number", "outputs", "words", "ending"] (spAns K) := by
  refine F.ok sc_ans (fun vs H Q E h => ?_) (fun cdv A outer s H vs Q E hr h => ?_)
  · obtain ⟨n, a, b, c, xs, ys, zs, rfl, _⟩ := h
    rfl
  · refine ⟨_, pss_cons (ps_set (i := 4) sc_ans.nd rfl (Or.inl rfl) (pe_lst (pa_cons (pv 0) pa_nil)))
      (pss_cons (ps_for PassesOwn.never rfl (pi_tup (pe_tup (pa_cons (pv 1) (pa_cons (pv 2) (pa_cons (pv 3) pa_nil))))) (pg_name (i := 5) sc_ans.nd rfl (Or.inl rfl))
        (pss_cons (ps_expr (pe_bm PySem.F.plainAttrs_list PySem.F.slot_list_append PySem.F.type_list_append mt_append (pv 4) (pa_cons (pe_callB call_len_seq (by rfl) hlen PySem.boot_len (pa_cons (pv 5) pa_nil)) pa_nil)))
        (pss_one (ps_expr (pe_bm PySem.F.plainAttrs_list PySem.F.slot_list_extend PySem.F.type_list_extend mt_extS (pv 4) (pa_cons (pv 5) pa_nil))))))
      (pss_one (ps_ret (pv 4)))), ?_⟩
    obtain ⟨n, a, b, c, xs, ys, zs, rfl, ha, hb, hc, lx, ly, lz, k⟩ := h
    refine ⟨_, rfl, (by show 1 ≤ sizeLine; decide), fun an nan => ?_⟩
    have s1 : ∀ o, Same H (upd H an o) := fun o => same_upd (Same.refl H) nan
    refine ⟨_, rfl, _, rfl, _, rfl, (by show 3 ≤ sizeLine; decide), fun T nT => ?_⟩
    have nTH : H T = none := (s1 _).free nT
    have neT : an ≠ T := fun z => by rw [← z, upd_same] at nT; cases nT
    have s2 : ∀ o, Same H (upd (upd H T (.tup [.ref a, .ref b, .ref c])) an o) := fun o => same_upd (same_upd (Same.refl H) nTH) nan
    have eT : ∀ o, (upd (upd H T (.tup [.ref a, .ref b, .ref c])) an o) T = some (.tup [.ref a, .ref b, .ref c]) := fun o => by rw [upd_ne (Ne.symm neT), upd_same]
    have e0 : upd (upd H an (.lst [.int n])) T (.tup [.ref a, .ref b, .ref c]) = upd (upd H T (.tup [.ref a, .ref b, .ref c])) an (.lst [.int n]) := by
      funext x
      by_cases h1 : x = T
      · subst h1
        rw [upd_same, upd_ne (Ne.symm neT), upd_same]
      · rw [upd_ne h1]
        by_cases h2 : x = an
        · subst h2
          rw [upd_same, upd_same]
        · rw [upd_ne h2, upd_ne h2, upd_ne h1]
    rw [e0]
    generalize hG : upd H T (.tup [.ref a, .ref b, .ref c]) = G at s2 eT ⊢
    refine ⟨T, rfl, ⟨_, .inl (.inl (eT _))⟩, ?_⟩
    have len3 : ∀ i, ((n :: partsL ([xs, ys, zs].take i)).map V.int).length ≤ 1 + 70001 * i := fun i => by
      rw [List.length_map]
      rcases i with _ | _ | _ | i
      · simp [partsL]
      · simp [partsL]; omega
      · simp [partsL]; omega
      · simp [partsL]; omega
    have bnd : 1 + 70001 * 3 ≤ sizeLine := by decide
    have turn : ∀ (i : Nat) (x : V), [V.ref a, V.ref b, V.ref c][i]? = some x → ∃ (p : Addr) (r : List Int), x = .ref p ∧ SqL K H p (r.map V.int) ∧ partsL ([xs, ys, zs].take (i + 1)) = partsL ([xs, ys, zs].take i) ++ (r.length : Int) :: r ∧ i < 3 := fun i x hx => by
      rcases i with _ | _ | _ | i
      · cases hx
        exact ⟨a, xs, rfl, ha, by simp [partsL], by decide⟩
      · cases hx
        exact ⟨b, ys, rfl, hb, by simp [partsL], by decide⟩
      · cases hx
        exact ⟨c, zs, rfl, hc, by simp [partsL], by decide⟩
      · cases hx
    refine for_tup (K := K) (a := T) (xs := [.ref a, .ref b, .ref c]) (fun i σ H' => ∃ v5, σ = [some (.int n), some (.ref a), some (.ref b), some (.ref c), some (.ref an), v5] ∧ H' = upd G an (.lst ((n :: partsL ([xs, ys, zs].take i)).map V.int)))
      ⟨none, rfl, rfl⟩ ?_ ?_ ?_
    · rintro i σ H' _ ⟨v5, rfl, rfl⟩
      exact .inl (.inl (eT _))
    · rintro i x σ H' hx ⟨v5, rfl, rfl⟩
      obtain ⟨p, r, rfl, hp, hpr, hi⟩ := turn i x hx
      have L1 := len3 i
      have L2 := len3 (i + 1)
      rw [hpr] at L2
      have e2 : (n :: partsL ([xs, ys, zs].take i)).map V.int ++ [V.int ((r.map V.int).length : Nat)] ++ r.map V.int = (n :: partsL ([xs, ys, zs].take (i + 1))).map V.int := by
        rw [hpr]
        simp
      refine ⟨_, rfl, .inl ⟨rfl, _, SqL.of upd_same⟩, _, rfl, p, _, rfl, .inl ((s2 _).seq hp), an, _, _, rfl, rfl, upd_same, ?_, ?_⟩
      · omega
      · rw [upd_upd]
        refine ⟨_, rfl, .inl ⟨rfl, _, SqL.of upd_same⟩, _, rfl, an, p, _, _, rfl, rfl, upd_same, (s2 _).seq hp, ?_, _, rfl, ?_⟩
        · rw [List.length_append, List.length_map]
          rw [List.length_map] at L2 ⊢
          simp at L2 ⊢
          omega
        · rw [upd_upd, e2]
    · rintro σ H' ⟨v5, rfl, rfl⟩
      exact ⟨_, rfl, k _ an upd_same⟩
end
end Sl
set_option Elab.async false
set_option linter.all false
set_option maxRecDepth 100000
set_option maxHeartbeats 4000000
namespace L2K
open PySem PySem.Spec PyProof.Rows L2 HotX L2H
/-! ### for over a tuple in an except suite -/
section
variable {X : Cx} {tg : Expr} {it a : Addr} {i : Nat} {pins : List (Addr × Obj)} {s : Shared} {σ : L2.St} {H : Hp} {E : Value → Shared → Prop}
/-- the iterator has turned, nothing else -/
theorem turned_by {h' : Heap} (I : Inv X pins σ H s) (hf : FpOk X pins H it) (k : ∀ b o, b ≠ it → s.heap.get? b = some o → h'.get? b = some o) : Inv X pins σ H { s with heap := h' } :=
  I.turned (t' := s.toks) k hf.1 hf.2.1 hf.2.2.2.1 hf.2.2.2.2.1 hf.2.2.2.2.2
theorem tup_item (I : Inv X pins σ H s) (hf : FpOk X pins H it) (st : s.heap.IsTupleIter it a i) (hg : (Itt X.K a).go i H) :
    wpAny (model X.prog X.w) X.A (pyNext (.ref it)) (fun r s1 => ∃ u, r = some u ∧
      wpAny (model X.prog X.w) X.A (letOwnedTupleGo tg (.ref it) u) (fun _ s2 => ∃ x H', Inv X pins σ H' s2 ∧ RelV x u ∧ (Itt X.K a).yld i H x H' ∧ s2.heap.IsTupleIter it a (i + 1) ∧ H' it = none) E s1) E s := by
  rcases hg with ⟨xs, x, seq, at_⟩
  rcases I.tuple seq with ⟨its, rel, tup, _⟩
  rcases rel.get at_ with ⟨u, atu, ru⟩
  have tup' : s.heap.IsTuple a its.toArray := tup
  apply wpAny_pyNext_tuple_item st tup' (x := u) (by simpa using atu)
  intro h' st' same
  have yld : (Itt X.K a).yld i H x H := ⟨rfl, fun ys hy => (I.tuple_inj hy seq).symm ▸ at_⟩
  have J : Inv X pins σ H { s with heap := h' } := turned_by I hf fun b o n e => (same.2 b n).trans e
  refine ⟨u, rfl, ?_⟩
  obtain ⟨o, there, kind, fields⟩ := st'
  exact go_of (s := { s with heap := h' }) there kind fields (by decide) ⟨x, H, J, ru, yld, ⟨o, there, kind, fields⟩, hf.1⟩
theorem tup_done (hc : HotC2 X) (I : Inv X pins σ H s) (hf : FpOk X pins H it) (st : s.heap.IsTupleIter it a i) (hg : (Itt X.K a).stop i H) :
    wpAny (model X.prog X.w) X.A (pyNext (.ref it)) (fun r s1 => r = none ∧ Inv X pins σ H s1) E s := by
  rcases hg with ⟨xs, seq, past⟩
  rcases I.tuple seq with ⟨its, rel, tup, _⟩
  have tup' : s.heap.IsTuple a its.toArray := tup
  have notIt : ∀ q ∈ X.pn, q.1 ≠ it := fun q m => hf.2.2.2.2.2 q (List.mem_append_left _ m)
  obtain ⟨q, mem, hot, behind⟩ := hc.at I
  refine HotK.pyNext_tuple_end_hot2 hot st tup' (by simpa [← rel.length] using past) (notIt q mem) (fun o vs u e d c => ?_) fun h' ext => ⟨rfl, turned_by I hf ext⟩
  obtain ⟨q2, mem2, rfl⟩ := behind o vs u e d c
  exact notIt q2 mem2
/-- a state between two turns of the loop: m bounds the turns to come -/
def Between (X : Cx) (pins : List (Addr × Obj)) (it a : Addr) (W : Nat → Nat → L2.St → Hp → Prop) (m : Nat) (s : Shared) : Prop := ∃ i σ H, Inv X pins σ H s ∧ s.heap.IsTupleIter it a i ∧ H it = none ∧ W i m σ H
theorem ps_for_tup {iter : Expr} {body : List Stmt} {tl : TE} {g : TG} {tb : TS} {pos : Pos} (hp : PassesOwn (model X.prog X.w) X.A X.env X.xe) (hc : HotC2 X) (hl : PE X iter tl) (hg : PG X tg g) (hb : PSs X body tb)
    (hs : ∀ x, foldedSetIterable iter X.env x = pure x := by intro _; rfl) : PS X (.For tg iter body [] pos) (tFor (iTup X.K tl) g tb) := by
  constructor
  intro pins s σ H D I h
  apply wpAny_For (hs := hs)
  refine wpAny_mono (hl.run pins s σ H _ I h) ?_ fun _ _ z => z
  rintro v s1 ⟨_, H1, I1, r1, a, rfl, ⟨xs, seq⟩, W, ⟨m0, w0⟩, turn⟩
  cases r1
  rcases I1.tuple seq with ⟨its, _, tup, _⟩
  have tup' : s1.heap.IsTuple a its.toArray := tup
  apply wpAny_pyIter_tuple tup'
  have ff := I1.fpOk (Nat.le_refl _) (I1.hok.fresh (Nat.le_refl s1.heap.objs.size))
  have there : (s1.heap.push { cls := .type "tuple_iterator", data := .fields #[.ref a, .int ((0 : Nat) : Int) 0] }).IsTupleIter s1.heap.objs.size a 0 := ⟨_, Heap.get?_push_size _ rfl, rfl, rfl⟩
  have first : Between X pins s1.heap.objs.size a W m0 { s1 with heap := s1.heap.push { cls := .type "tuple_iterator", data := .fields #[.ref a, .int ((0 : Nat) : Int) 0] } } :=
    ⟨0, σ, H1, I1.kept (t' := s1.toks) fun _ _ e => Heap.get?_push_of_some _ e, there, ff.1, w0⟩
  clear there
  generalize s1.heap.objs.size = it at ff first ⊢
  refine codeAny_forLoop_any (Between X pins it a W) ?_ m0 first
  rintro n s3 ⟨i, σ3, H3, J, at_, free, w3⟩
  have fp : FpOk X pins H3 it := ⟨free, ff.2⟩
  rcases turn i n σ3 H3 w3 with ⟨stop, after⟩ | ⟨go, N, less, step⟩
  · refine wpAny_passesOwn hp (wpAny_mono (tup_done hc J fp at_ stop) ?_ fun _ _ z => z)
    rintro _ s4 ⟨rfl, J4⟩
    exact wpAny_execs_nil ⟨σ3, H3, J4, after⟩
  refine wpAny_passesOwn hp (wpAny_mono (tup_item (tg := tg) J fp at_ go) ?_ fun _ _ z => z)
  rintro _ s4 ⟨u, rfl, let_go⟩
  refine wpAny_passesOwn hp (wpAny_mono let_go ?_ fun _ _ z => z)
  rintro _ s5 ⟨x, H5, J5, rx, yx, ⟨oi, ei, ci, di⟩, free5⟩
  have P : Inv X (pins ++ [(it, oi)]) σ3 H5 s5 := more_pins J5 (by
    simp only [List.mem_singleton, forall_eq]
    exact ⟨ei, free5, ff.2.1, ff.2.2.1, fun v z => nomatch di.symm.trans z⟩)
  refine wpAny_passesOwn hp (wpAny_mono (hg.run _ s5 σ3 H5 x u _ P rx (step x H5 yx)) ?_ fun _ _ z => z)
  rintro _ s6 ⟨σ6, H6, P6, q6⟩
  refine wpAny_passesOwn hp (wpAny_mono (hb.run _ s6 σ6 H6 _ P6 q6) ?_ fun _ _ z => z)
  intro f s7 e7
  have next : ∀ {σ7 : L2.St} {H7 : Hp}, Inv X (pins ++ [(it, oi)]) σ7 H7 s7 → N σ7 H7 → ∃ m, m < n ∧ Between X pins it a W m s7 := by
    intro σ7 H7 P7 n7
    obtain ⟨m', lt, w7⟩ := less σ7 H7 n7
    obtain ⟨get, free7, _⟩ := P7.pin (it, oi) (by simp)
    exact ⟨m', lt, i + 1, σ7, H7, less_pins P7, ⟨oi, get, ci, di⟩, free7, w7⟩
  match f, e7 with
  | .next, ⟨_, _, P7, n7⟩ => exact next P7 n7
  | .cont, ⟨_, _, P7, n7⟩ => exact next P7 n7
  | .brk, ⟨σ7, H7, P7, q7⟩ => exact ⟨σ7, H7, less_pins P7, q7⟩
  | .ret _, ⟨x7, σ7, H7, P7, r7, q7⟩ => exact ⟨x7, σ7, H7, less_pins P7, r7, q7⟩
end
/-! ### a def called in an except suite -/
/-- a def's promise where pl holds the exception that is handled and what stands behind it -/
structure FnH2 (P : Program) (w : World) (K : PySem.W.Frag) (mg : Str → Option Value) (base : Heap) (CX : CXT) (k : Nat) (f : Addr) (fd : FuncData) (ps : List Str) (sp : Sp) : Prop where
  len : ∀ (vs : List V) (H : Hp) (Q : VK) (E : XK), sp vs H Q E → vs.length = ps.length
  run : ∀ (A : Around) (outer : List Env) (s : Shared) (H : Hp) (args : Args) (us : List Value) (vs : List V) (Q : VK) (E : XK) (pl : List (Addr × Obj)), RoomH k A → Hot2 A pl → (∀ p ∈ pl, PinOk outer H s p) → Env0 P w K mg base A outer s H →
    BindsTo s fd args (ps.zip us) → Vals vs us → sp vs H Q E → codeAny (model P w) A (.call (.ref f) args) (CR CX outer P w H s Q E) s
def cxH2 (CX : CXT) (P : Program) (w : World) (K : PySem.W.Frag) (mg : Str → Option Value) (base : Heap) (N : List Str) (qual : Str) (scope : Scope) (f : Addr) (cd : Value) (A : Around) (outer : List Env) (s : Shared) (H : Hp) (E : XK) (pl : List (Addr × Obj)) : Cx :=
  { cxOf CX P w K mg base N qual scope f cd A outer s H E with calm := false, pn := pl }
section
variable {CX : CXT} {P : Program} {w : World} {K : PySem.W.Frag} {mg : Str → Option Value} {base : Heap} {N ps : List Str} {qual : Str} {scope : Scope} {f : Addr} {cd : Value} {A : Around} {outer : List Env} {s s1 : Shared} {H : Hp} {E : XK} {us : List Value} {vs : List V}
/-- more pinned objects, in a suite -/
theorem inv_pins {X : Cx} {σ : L2.St} (I : Inv X [] σ H s1) (pl : List (Addr × Obj)) (hot : X.calm = false) (pin : ∀ p ∈ pl, s1.heap.get? p.1 = some p.2 ∧ H p.1 = none ∧ p.1 ≠ X.env.locals ∧ p.1 ∉ X.fs ∧ ∀ v, p.2.data ≠ .cell v) : Inv { X with calm := false, pn := pl } [] σ H s1 :=
  have ok : Cx.Ok { X with calm := false, pn := pl } := { I.ok with hd := nofun }
  { I with ok := ok, pin := fun p m => pin p (by simpa using m) }
/-- the start of such a def: from the start of a def that bears one of them -/
theorem inv_start2 (S : FnScope N ps scope) {p : Addr × Obj} {pl : List (Addr × Obj)} (hp : p ∈ pl) (hpin : ∀ p ∈ pl, PinOk outer H s p) (e0 : Env0 P w K mg base A outer s H) (hl : vs.length = ps.length) (r : Vals vs us)
    (x : InCallC s s.heap.objs.size (bindL (envOfC qual scope s.heap.objs.size f cd).kindOf (ps.zip us) fun _ => none) (cellsFrom (s.heap.objs.size + 1) scope.names []) (bindC (envOfC qual scope s.heap.objs.size f cd).kindOf (ps.zip us) fun _ => none) s1) :
    Inv (cxH2 CX P w K mg base N qual scope f cd A outer s H E pl) [] (L2.start N vs) H s1 := by
  have I := inv_startH (CX := CX) (E := E) S (hpin p hp) e0 hl r x
  refine inv_pins I pl rfl fun q m => ?_
  obtain ⟨_, _, rfl, keeps⟩ := x.done
  have pin := hpin q m
  exact ⟨keeps q.1 q.2 pin.get, pin.free, Nat.ne_of_lt (Heap.lt_size pin.get), pin.nofs, pin.nocell⟩
/-- the parameters are names of the def, or cells -/
theorem par_kinds (S : FnScope N ps scope) (n : Nat) (y : Str × Value) (m : y ∈ ps.zip us) : scope.names.lookup y.1 = some .local ∨ (scope.names.lookup y.1 = some .cell ∧ ((cellsFrom n scope.names []).lookup y.1).isSome = true) :=
  (S.par y.1 (List.of_mem_zip (a := y.1) (b := y.2) m).1).imp_right fun q => ⟨q, PySem.W.cellsFrom_some _ _ _ (.inl q)⟩
/-- what a body leaves is what its call leaves -/
theorem left_by {Q : VK} {pl : List (Addr × Obj)} {s' : Shared} {fl : Flow} (e : SP (cxH2 CX P w K mg base N qual scope f cd A outer s H E pl) [] { nx := fun _ H' => Q .non H', rt := Q } fl s') :
    match fl with
    | .ret u => CE outer P w H s Q u s'
    | .next => CE outer P w H s Q .none s'
    | _ => False := by
  cases fl with
  | ret u => exact let ⟨v, _, H', J, r, q⟩ := e; ⟨v, H', J.os, J.bare, J.base, J.hok, r, q⟩
  | next => exact let ⟨_, H', J, q⟩ := e; ⟨.non, H', J.os, J.bare, J.base, J.hok, rfl, q⟩
  | brk => exact e.elim fun _ z => z.elim fun _ q => q.2
  | cont => exact e.elim fun _ z => z.elim fun _ q => q.2
end
theorem fn_of2 {CX : CXT} {P : Program} {w : World} {K : PySem.W.Frag} {mg : Str → Option Value} {base : Heap} {k : Nat} {f : Addr} {name qual : Str} {params : Arguments} {body : List Stmt} {scope : Scope} {dV kV doc pm cdv ct oc : Value} {an od : Option Addr} {osl : Array (Option Value)} {N ps : List Str} {sp : Sp}
    (lk : K.lookup f = some ⟨oc, od, .func (PySem.W.fnOf name qual params body scope dV kV doc pm an cdv ct), osl⟩) (hcd : PySem.W.codeIn K cdv qual = true) (S : FnScope N ps scope) (len : ∀ (vs : List V) (H : Hp) (Q : VK) (E : XK), sp vs H Q E → vs.length = ps.length)
    (hbody : ∀ (A : Around) (outer : List Env) (s : Shared) (H : Hp) (vs : List V) (Q : VK) (E : XK) (pl : List (Addr × Obj)), Hot2 A pl → RoomH k (A.deeper (envOfC qual scope s.heap.objs.size f cdv)) → sp vs H Q E →
      ∃ t, PSs (cxH2 CX P w K mg base N qual scope f cdv A outer s H E pl) body t ∧ t { nx := fun _ H' => Q .non H', rt := Q } (L2.start N vs) H) :
    FnH2 P w K mg base CX (k + 1) f (PySem.W.fnOf name qual params body scope dV kV doc pm an cdv ct) ps sp := by
  refine { len := len, run := ?_ }
  intro A outer s H args us vs Q E pl room hot pins env binds rel hsp
  obtain ⟨t, ht, hq⟩ := hbody A outer s H vs Q E pl hot (room.deeper _) hsp
  obtain ⟨p, mem, _⟩ := id hot
  have stays : base.StaysIn s.heap := fun b o e => (env.bs b o e).1
  have KX := env.mod.kin.keeps stays
  refine codeAny_call_function room.depth (KX _ _ lk) rfl S.co S.gen rfl (PySem.W.codeRec_of KX hcd) (binds _ _ _ _ (wpAny_newFunctionEnv_cells S.kind (par_kinds S _) ?_))
  rintro _ rfl s1 x
  refine ⟨(env.mod.nolimit.keeps stays).keeps x.toInCall.keep, codeAny_func (wpAny_mono (ht.run [] s1 _ H _ (inv_start2 S mem pins env (len vs H Q E hsp) rel x) hq) ?_ fun _ _ z => z)⟩
  intro fl s' e
  have z := left_by e
  cases fl <;> first | exact z | exact False.elim z
section
variable {X : Cx} {CX : CXT} {k : Nat} {f : Addr} {fd : FuncData} {ps : List Str} {sp : Sp} {E : XK} {x : Str} {q pos : Pos} {e : Expr} {es : List Expr} {t : TA}
/-- what the context bears is pinned for the def, too -/
theorem pins_on {pins : List (Addr × Obj)} {σ : L2.St} {H : Hp} {s : Shared} (I : Inv X pins σ H s) {p : Addr × Obj} (m : p ∈ X.pn) : PinOk X.stack H s p :=
  have ⟨get, free, notL, notF, notC⟩ := I.pin p (List.mem_append_left _ m)
  ⟨get, free, fun z => (List.mem_cons.mp (I.stkSub p.1 z)).elim notL notF, notC⟩
theorem pe_call2 (F : FnH2 X.prog X.w X.K X.mg X.base CX k f fd ps sp) (hr : RoomH k X.A) (hc : HotC2 X) (hg : Gl X x) (hm : X.mg x = some (.ref f)) (hk : PySem.W.keepIn X.K (.ref f) = true) (hb : Binds X.K fd ps []) (hx : Passes CX X E) (ha : PA X (e :: es) t)
    (hdb : (x == ("__debug__" : Str)) = false := by decide) (he : starEach (e :: es) X.env = (false, eval e X.env) :: starEach es X.env := by rfl) (hpl : (backTo pos (starEach es X.env)).any (·.1) = false := by rfl) :
    PE X (.Call (.Name x q) (e :: es) [] pos) (fun σ H Q => t σ H fun vs H1 => sp vs H1 Q E) := by
  constructor
  intro pins s σ H Q I h
  refine wpAny_Call_Name_kw (ld_glob I hg hm (PySem.W.callWith_K (h₀ := X.base) I.ok.mod.kin hk (wpAny_mono (ha.run pos pins s σ H _ I h) ?_ fun _ _ z => z) he hpl) hdb)
  rintro us s1 ⟨vs, H1, J, rel, hsp⟩
  have many : us.length = ps.length := rel.length.symm.trans (F.len vs H1 Q E hsp)
  have binds : BindsTo s1 fd ⟨us, []⟩ (ps.zip us) := by simpa using hb s1 us J.kIn (by simpa using many)
  refine ⟨J.kIn, wpAny_call (codeAny_mono (F.run X.A X.stack s1 H1 _ us vs Q E X.pn hr hc (fun p => pins_on J) J.env0 binds rel hsp) ?_)⟩
  rintro (y | fl) s' left
  · exact hx pins σ H1 s1 y s' J left
  · cases fl with
    | ret u => exact J.after left
    | _ => exact left.elim
end
end L2K
set_option Elab.async false
set_option linter.all false
set_option maxRecDepth 100000
set_option maxHeartbeats 4000000
namespace Sl
open PySem PySem.Spec PyProof.Rows L2 SlM
section
variable {P : Program} {w : World} {K : PySem.W.Frag} {mg : Str → Option Value} {base : Heap} {CL CN fN : Addr}
/-! ### answer_of, called in an except suite -/
theorem ok_ans2 {f : Addr} {fd : FuncData} (F : Fun K "answer_of" "answer_of" s_answer_of f fd) (hlen : mg "len" = none) : L2K.FnH2 P w K mg base CX0 1 f fd ["number", "outputs", "words", "ending"] (spAns K) := by
  obtain ⟨oc, od, kV, doc, pm, an, cdv, ct, osl, rfl, lk, hcd⟩ := F.ex
  refine L2K.fn_of2 (N := ["number", "outputs", "words", "ending", "answer", "part"]) lk hcd sc_ans (fun vs H Q E h => ?_) (fun A outer s H vs Q E pl hot hr h => ?_)
  · obtain ⟨n, a, b, c, xs, ys, zs, rfl, _⟩ := h
    rfl
  · refine ⟨_, pss_cons (ps_set (i := 4) sc_ans.nd rfl (Or.inl rfl) (pe_lst (pa_cons (pv 0) pa_nil)))
      (pss_cons (L2K.ps_for_tup PassesOwn.leaving hot (pe_tup (pa_cons (pv 1) (pa_cons (pv 2) (pa_cons (pv 3) pa_nil)))) (pg_name (i := 5) sc_ans.nd rfl (Or.inl rfl))
        (pss_cons (ps_expr (pe_bm PySem.F.plainAttrs_list PySem.F.slot_list_append PySem.F.type_list_append mt_append (pv 4) (pa_cons (pe_callB call_len_seq (by rfl) hlen PySem.boot_len (pa_cons (pv 5) pa_nil)) pa_nil)))
        (pss_one (ps_expr (pe_bm PySem.F.plainAttrs_list PySem.F.slot_list_extend PySem.F.type_list_extend mt_extS (pv 4) (pa_cons (pv 5) pa_nil))))))
      (pss_one (ps_ret (pv 4)))), ?_⟩
    obtain ⟨n, a, b, c, xs, ys, zs, rfl, ha, hb, hc, lx, ly, lz, k⟩ := h
    refine ⟨_, rfl, (by show 1 ≤ sizeLine; decide), fun an nan => ?_⟩
    have s1 : ∀ o, Same H (upd H an o) := fun o => same_upd (Same.refl H) nan
    refine ⟨_, rfl, _, rfl, _, rfl, (by show 3 ≤ sizeLine; decide), fun T nT => ?_⟩
    have nTH : H T = none := (s1 _).free nT
    have neT : an ≠ T := fun z => by rw [← z, upd_same] at nT; cases nT
    have s2 : ∀ o, Same H (upd (upd H T (.tup [.ref a, .ref b, .ref c])) an o) := fun o => same_upd (same_upd (Same.refl H) nTH) nan
    have eT : ∀ o, (upd (upd H T (.tup [.ref a, .ref b, .ref c])) an o) T = some (.tup [.ref a, .ref b, .ref c]) := fun o => by rw [upd_ne (Ne.symm neT), upd_same]
    have e0 : upd (upd H an (.lst [.int n])) T (.tup [.ref a, .ref b, .ref c]) = upd (upd H T (.tup [.ref a, .ref b, .ref c])) an (.lst [.int n]) := by
      funext x
      by_cases h1 : x = T
      · subst h1
        rw [upd_same, upd_ne (Ne.symm neT), upd_same]
      · rw [upd_ne h1]
        by_cases h2 : x = an
        · subst h2
          rw [upd_same, upd_same]
        · rw [upd_ne h2, upd_ne h2, upd_ne h1]
    rw [e0]
    generalize hG : upd H T (.tup [.ref a, .ref b, .ref c]) = G at s2 eT ⊢
    refine ⟨T, rfl, ⟨_, .inl (.inl (eT _))⟩, ?_⟩
    have len3 : ∀ i, ((n :: partsL ([xs, ys, zs].take i)).map V.int).length ≤ 1 + 70001 * i := fun i => by
      rw [List.length_map]
      rcases i with _ | _ | _ | i
      · simp [partsL]
      · simp [partsL]; omega
      · simp [partsL]; omega
      · simp [partsL]; omega
    have bnd : 1 + 70001 * 3 ≤ sizeLine := by decide
    have turn : ∀ (i : Nat) (x : V), [V.ref a, V.ref b, V.ref c][i]? = some x → ∃ (p : Addr) (r : List Int), x = .ref p ∧ SqL K H p (r.map V.int) ∧ partsL ([xs, ys, zs].take (i + 1)) = partsL ([xs, ys, zs].take i) ++ (r.length : Int) :: r ∧ i < 3 := fun i x hx => by
      rcases i with _ | _ | _ | i
      · cases hx
        exact ⟨a, xs, rfl, ha, by simp [partsL], by decide⟩
      · cases hx
        exact ⟨b, ys, rfl, hb, by simp [partsL], by decide⟩
      · cases hx
        exact ⟨c, zs, rfl, hc, by simp [partsL], by decide⟩
      · cases hx
    refine for_tup (K := K) (a := T) (xs := [.ref a, .ref b, .ref c]) (fun i σ H' => ∃ v5, σ = [some (.int n), some (.ref a), some (.ref b), some (.ref c), some (.ref an), v5] ∧ H' = upd G an (.lst ((n :: partsL ([xs, ys, zs].take i)).map V.int)))
      ⟨none, rfl, rfl⟩ ?_ ?_ ?_
    · rintro i σ H' _ ⟨v5, rfl, rfl⟩
      exact .inl (.inl (eT _))
    · rintro i x σ H' hx ⟨v5, rfl, rfl⟩
      obtain ⟨p, r, rfl, hp, hpr, hi⟩ := turn i x hx
      have L1 := len3 i
      have L2 := len3 (i + 1)
      rw [hpr] at L2
      have e2 : (n :: partsL ([xs, ys, zs].take i)).map V.int ++ [V.int ((r.map V.int).length : Nat)] ++ r.map V.int = (n :: partsL ([xs, ys, zs].take (i + 1))).map V.int := by
        rw [hpr]
        simp
      refine ⟨_, rfl, .inl ⟨rfl, _, SqL.of upd_same⟩, _, rfl, p, _, rfl, .inl ((s2 _).seq hp), an, _, _, rfl, rfl, upd_same, ?_, ?_⟩
      · omega
      · rw [upd_upd]
        refine ⟨_, rfl, .inl ⟨rfl, _, SqL.of upd_same⟩, _, rfl, an, p, _, _, rfl, rfl, upd_same, (s2 _).seq hp, ?_, _, rfl, ?_⟩
        · rw [List.length_append, List.length_map]
          rw [List.length_map] at L2 ⊢
          simp at L2 ⊢
          omega
        · rw [upd_upd, e2]
    · rintro σ H' ⟨v5, rfl, rfl⟩
      exact ⟨_, rfl, k _ an upd_same⟩

/-! ### what is due -/
theorem natV_ints (l : List Nat) : natV l = (Sf47Neutral.ints l).map V.int := by
  unfold natV Sf47Neutral.ints
  rw [List.map_map]
  rfl
theorem nats_ints (l : List Nat) : Sf47Neutral.natsOf (Sf47Neutral.ints l) = l := by
  unfold Sf47Neutral.natsOf Sf47Neutral.ints
  rw [List.map_map]
  conv => rhs; rw [← List.map_id l]
  exact List.map_congr_left fun n _ => Int.toNat_natCast n
def runIs (ns : List Int) (ins tms : List Nat) (ws : List Int) : List Int := match Sf47.program (ns.length : Nat) (ns.map code) with
  | .error _ => -1 :: partsL [[], ws, []]
  | .ok p => if Sf47.rises tms = true then 0 :: partsL [Sf47Neutral.ints (Sf47.scans p 0 (Sf47.begin_ ws) (ins.zip tms)).1, (Sf47.scans p 0 (Sf47.begin_ ws) (ins.zip tms)).2.1, Sf47Neutral.ints (endL ins.length (Sf47.scans p 0 (Sf47.begin_ ws) (ins.zip tms)).2.2)] else -2 :: partsL [[], ws, []]
theorem list_of {v : Int} {o : List Nat} {ws : List Int} {e : List Nat} (h : ws ≠ []) : Sf47Neutral.listOf ⟨v, none, o, ws, e⟩ = v :: partsL [Sf47Neutral.ints o, ws, Sf47Neutral.ints e] := by
  unfold Sf47Neutral.listOf
  dsimp only
  rw [if_neg h]
  simp [partsL, Sf47Neutral.listed, Sf47Neutral.ints]
theorem run_is {ns : List Int} {ins tms : List Nat} {ws : List Int} (hw : ws.length = 256) (hi : ins.length ≤ 65536) (hs : ∀ p, Sf47.program (ns.length : Nat) (ns.map code) = .ok p → Sf47.rises tms = true → (Sf47.scans p 0 (Sf47.begin_ ws) (ins.zip tms)).2.1 ≠ []) : PySf47.run ns (Sf47Neutral.ints ins) (Sf47Neutral.ints tms) ws = runIs ns ins tms ws := by
  have wn : ws ≠ [] := fun z => by rw [z] at hw; cases hw
  have li : (Sf47Neutral.ints ins).length = ins.length := List.length_map _
  show Sf47Neutral.listOf (Sf47.spec (.run (ns.length : Nat) ((Sf47Neutral.ints ins).length : Nat) (Sf47Neutral.bytesOf ns) (Sf47Neutral.natsOf (Sf47Neutral.ints ins)) (Sf47Neutral.natsOf (Sf47Neutral.ints tms)) ws)) = _
  rw [nats_ints, nats_ints, li]
  unfold runIs
  have hp : Sf47.program (ns.length : Nat) (ns.map code) = Sf47.program (ns.length : Nat) (Sf47Neutral.bytesOf ns) := by rw [← bytes_code, program_nb]
  rw [hp] at hs ⊢
  show Sf47Neutral.listOf (match Sf47.program (ns.length : Nat) (Sf47Neutral.bytesOf ns) with
    | .error _ => ⟨-1, none, [], ws, []⟩
    | .ok p => if 0 ≤ ((ins.length : Nat) : Int) ∧ ((ins.length : Nat) : Int) ≤ 65536 ∧ Sf47.rises tms = true then ⟨0, none, (Sf47.scans p 0 (Sf47.begin_ ws) (ins.zip tms)).1, (Sf47.scans p 0 (Sf47.begin_ ws) (ins.zip tms)).2.1, match (Sf47.scans p 0 (Sf47.begin_ ws) (ins.zip tms)).2.2 with | none => [0, ((ins.length : Nat) : Int).toNat, 0] | some e => [e.1, e.2.1, e.2.2]⟩ else ⟨-2, none, [], ws, []⟩) = _
  cases q : Sf47.program (ns.length : Nat) (Sf47Neutral.bytesOf ns) with
  | error k => exact list_of wn
  | ok p =>
    dsimp only
    by_cases c : Sf47.rises tms = true
    · rw [if_pos ⟨by omega, by omega, c⟩, if_pos c]
      have e : (match (Sf47.scans p 0 (Sf47.begin_ ws) (ins.zip tms)).2.2 with | none => [0, ((ins.length : Nat) : Int).toNat, 0] | some e => [e.1, e.2.1, e.2.2]) = endL ins.length (Sf47.scans p 0 (Sf47.begin_ ws) (ins.zip tms)).2.2 := by
        cases (Sf47.scans p 0 (Sf47.begin_ ws) (ins.zip tms)).2.2 <;> rfl
      refine Eq.trans (congrArg Sf47Neutral.listOf ?_) (list_of (hs p q c))
      rw [← e]
    · rw [if_neg (fun z => c z.2.2), if_neg c]
      exact list_of wn
end
end Sl
set_option Elab.async false
set_option linter.all false
set_option maxRecDepth 100000
set_option maxHeartbeats 4000000
namespace Sl
open PySem PySem.Spec PyProof.Rows L2 SlM
section
variable {P : Program} {w : World} {K : PySem.W.Frag} {mg : Str → Option Value} {base : Heap} {CL CN fN : Addr}
def spRunC (K : PySem.W.Frag) : Sp := fun vs H Q _ => ∃ (a ia ta wa : Addr) (ns : List Int) (ins tms : List Nat) (ws : List Int), vs = [.ref a, .ref ia, .ref ta, .ref wa] ∧ SqL K H a (ns.map V.int) ∧ ns.length ≤ 65536 ∧ (∀ n ∈ ns, 0 ≤ n ∧ n ≤ 255) ∧ SqL K H ia (natV ins) ∧ SqL K H ta (natV tms) ∧ tms.length = ins.length ∧ ins.length ≤ 65536 ∧
  SqL K H wa (ws.map V.int) ∧ ws.length = 256 ∧ (∀ z ∈ ws, Sf47.fits z = true) ∧ ∀ H' p, H' p = some (.lst ((PySf47.run ns (Sf47Neutral.ints ins) (Sf47Neutral.ints tms) ws).map V.int)) → Q (.ref p) H'
theorem sc_runC : FnScope ["text", "inputs", "times", "words", "lines", "done"] ["text", "inputs", "times", "words"] (defScope s_run) := ⟨rfl, rfl, rfl, by decide +kernel, rfl, by decide +kernel, by decide +kernel⟩
theorem ok_runC {f : Addr} {fd : FuncData} (F : Fun K "run" "run" s_run f fd) (NT : PySem.NapX.NapTxt K mg CN fN) (hlen : mg "len" = none) (cL : TxtC mg "SCAN_LIMIT" (.int 65536))
    (G : Df P w K mg base (L2K.CX P w) 10 "read_program" ["codes"] (spProg K CL CN)) (S : Df P w K mg base CX0 11 "do_scans" ["lines", "inputs", "times", "words"] (spScans K CL)) (FL : Df P w K mg base CX0 1 "times_fall" ["times"] (spFall K))
    {fA : Addr} {fdA : FuncData} (mA : mg "answer_of" = some (.ref fA)) (kA : PySem.W.keepIn K (.ref fA) = true) (bA : Binds K fdA ["number", "outputs", "words", "ending"] []) (A1 : FnOk P w K mg base CX0 1 fA fdA ["number", "outputs", "words", "ending"] (spAns K)) (A2 : L2K.FnH2 P w K mg base CX0 1 fA fdA ["number", "outputs", "words", "ending"] (spAns K)) :
    FnOk P w K mg base CX0 12 f fd ["text", "inputs", "times", "words"] (spRunC K) := by
  obtain ⟨fG, fdG, mG, kG, bG, FG⟩ := G
  obtain ⟨fS, fdS, mS, kS, bS, FS⟩ := S
  obtain ⟨fF, fdF, mF, kF, bF, FF⟩ := FL
  obtain ⟨uL, mL, rL⟩ := cL
  refine F.ok sc_runC (fun vs H Q E h => ?_) (fun cdv A outer s H vs Q E hr h => ?_)
  · obtain ⟨a, ia, ta, wa, ns, ins, tms, ws, rfl, _⟩ := h
    rfl
  · have hr1 : Room 1 _ := hr.mono (by decide)
    have hr10 : Room 10 _ := hr.mono (by decide)
    refine ⟨_, pss_cons (L2K.ps_try_only2 (c := .ref CN) (ts := fun a cls d => tRet (fun σ H Q => (tCons (tUn (rU fun i => V.int (-i)) (L2.tC (.int 1))) (tCons (tLst tNil) (tCons (tVar 3) (tCons (tLst tNil) tNil)))) σ H fun vs H1 => spAns K vs H1 Q E0)) rfl rfl ⟨by rfl, by decide, .inl NT.gC⟩
        (fun W pn xe tk po => pss_one (ps_set (i := 4) sc_runC.nd rfl (Or.inl rfl) (pe_callS FG hr10 (by rfl) mG kG bG (fun σ => L2K.passAt tk σ) (pa_cons (pv 0) pa_nil))))
        (fun a cls d pn hot => pss_one (ps_ret (L2K.pe_call2 A2 (L2H.roomH_mark hr1 _) hot (by rfl) mA kA bA pass0 (pa_cons (pe_un un_neg pe_int) (pa_cons (pe_lst pa_nil) (pa_cons (pv 3) (pa_cons (pe_lst pa_nil) pa_nil))))))))
      (pss_cons (ps_if (PW.pt (pw_or (pt_cmpR op_gt (pe_callB call_len_seq (by rfl) hlen PySem.boot_len (pa_cons (pv 2) pa_nil)) (pe_glob (by rfl) mL rL) (nomark _)) (pw_or1 (pt_val (pe_call FF hr1 (by rfl) mF kF bF .nil pass0 (pa_cons (pv 2) pa_nil))))))
        (pss_one (ps_ret (pe_call A1 hr1 (by rfl) mA kA bA .nil pass0 (pa_cons (pe_un un_neg pe_int) (pa_cons (pe_lst pa_nil) (pa_cons (pv 3) (pa_cons (pe_lst pa_nil) pa_nil))))))) pss_nil)
      (pss_cons (ps_set (i := 5) sc_runC.nd rfl (Or.inl rfl) (pe_call FS hr (by rfl) mS kS bS .nil pass0 (pa_cons (pv 4) (pa_cons (pv 1) (pa_cons (pv 2) (pa_cons (pv 3) pa_nil))))))
      (pss_one (ps_ret (pe_call A1 hr1 (by rfl) mA kA bA .nil pass0 (pa_cons pe_int (pa_cons (pe_ix ix_tup (pv 5) pe_int (fun _ _ => rfl)) (pa_cons (pe_ix ix_tup (pv 5) pe_int (fun _ _ => rfl)) (pa_cons (pe_ix ix_tup (pv 5) pe_int (fun _ _ => rfl)) pa_nil))))))))), ?_⟩
    obtain ⟨a, ia, ta, wa, ns, ins, tms, ws, rfl, hS, hl, hn, hia, hta, hlt, hmax, hwa, hw, hwf, k⟩ := h
    refine ⟨_, rfl, a, ns, rfl, hS, hl, hn, fun kk e H1 d s1 nd ed => ?_, fun pls e hrd hpl hbad H1 p s1 np la => ?_⟩
    · -- refused
      have er : PySf47.run ns (Sf47Neutral.ints ins) (Sf47Neutral.ints tms) ws = -1 :: partsL [[], ws, []] := by
        rw [run_is hw hmax (fun p q => by rw [e] at q; cases q)]
        unfold runIs
        rw [e]
      rw [er] at k
      refine ⟨true, NT.te, fun _ x nx => ?_, fun z => by cases z⟩
      refine ⟨_, rfl, (by show 0 ≤ sizeLine; decide), fun l1 n1 => ⟨_, rfl, (by show 0 ≤ sizeLine; decide), fun l2 n2 => ?_⟩⟩
      have e1 : (upd (upd H1 l1 (.lst [])) l2 (.lst [])) l1 = some (.lst []) := by rw [upd_ne (ne_of_none upd_same n2), upd_same]
      have s2 : Same H (upd (upd H1 l1 (.lst [])) l2 (.lst [])) := s1.trans ((same_upd (Same.refl H1) n1).trans (same_upd (Same.refl _) n2))
      exact ⟨-1, l1, wa, l2, [], ws, [], rfl, SqL.of e1, s2.seq hwa, SqL.of upd_same, Nat.zero_le _, by rw [hw]; decide, Nat.zero_le _, k⟩
    · refine ⟨_, rfl, ta, natV tms, rfl, .inl (s1.seq hta), _, _, rfl, rfl, _, rfl, ?_⟩
      have lt : (natV tms).length = tms.length := List.length_map _
      rw [lt]
      refine if_f (decide_eq_false (by show ¬ (65536 : Int) < (tms.length : Nat); omega)) ?_
      refine ⟨_, rfl, ta, tms, rfl, s1.seq hta, by omega, fun H2 s2 => ⟨_, rfl, ?_⟩⟩
      have s12 := s1.trans s2
      by_cases c : Sf47.rises tms = true
      · refine if_f (by rw [c]; rfl) ?_
        obtain ⟨hI, hd⟩ := read_inv hrd
        refine ⟨_, rfl, _, rfl, _, rfl, _, rfl, p, ia, ta, wa, pls, ins, tms, ws, rfl, lines_same s2 la, hpl, hbad, hI, hd, s12.seq hia, s12.seq hta, hlt, hmax, c, s12.seq hwa, hw, hwf, fun ho hwl H3 T o wd en eT eo ew ee => ?_⟩
        have er : PySf47.run ns (Sf47Neutral.ints ins) (Sf47Neutral.ints tms) ws = 0 :: partsL [Sf47Neutral.ints (Sf47.scans (prog pls 0) 0 (Sf47.begin_ ws) (ins.zip tms)).1, (Sf47.scans (prog pls 0) 0 (Sf47.begin_ ws) (ins.zip tms)).2.1, Sf47Neutral.ints (endL ins.length (Sf47.scans (prog pls 0) 0 (Sf47.begin_ ws) (ins.zip tms)).2.2)] := by
          rw [run_is hw hmax (fun q hq _ z => by rw [e] at hq; cases hq; rw [z] at hwl; cases hwl)]
          unfold runIs
          rw [e]
          show (if Sf47.rises tms = true then _ else _) = _
          rw [if_pos c]
        rw [er] at k
        rw [natV_ints] at eo ee
        have le : (Sf47Neutral.ints (endL ins.length (Sf47.scans (prog pls 0) 0 (Sf47.begin_ ws) (ins.zip tms)).2.2)).length ≤ 70000 := by
          unfold Sf47Neutral.ints
          rw [List.length_map]
          cases (Sf47.scans (prog pls 0) 0 (Sf47.begin_ ws) (ins.zip tms)).2.2 <;> (show 3 ≤ 70000; decide)
        refine ⟨_, rfl, T, _, _, _, rfl, rfl, .inl (.inl eT), rfl, _, rfl, T, _, _, _, rfl, rfl, .inl (.inl eT), rfl, _, rfl, T, _, _, _, rfl, rfl, .inl (.inl eT), rfl, ?_⟩
        exact ⟨0, o, wd, en, _, _, _, rfl, SqL.of eo, SqL.of ew, SqL.of ee, by unfold Sf47Neutral.ints; rw [List.length_map]; omega, by rw [hwl]; decide, le, k⟩
      · have c : Sf47.rises tms = false := Bool.eq_false_iff.mpr c
        refine if_t (by rw [c]; rfl) ?_
        have er : PySf47.run ns (Sf47Neutral.ints ins) (Sf47Neutral.ints tms) ws = -2 :: partsL [[], ws, []] := by
          rw [run_is hw hmax (fun q hq hc => by rw [c] at hc; cases hc)]
          unfold runIs
          rw [e]
          show (if Sf47.rises tms = true then _ else _) = _
          rw [c, if_neg Bool.false_ne_true]
        rw [er] at k
        refine ⟨_, rfl, (by show 0 ≤ sizeLine; decide), fun l1 n1 => ⟨_, rfl, (by show 0 ≤ sizeLine; decide), fun l2 n2 => ?_⟩⟩
        have e1 : (upd (upd H2 l1 (.lst [])) l2 (.lst [])) l1 = some (.lst []) := by rw [upd_ne (ne_of_none upd_same n2), upd_same]
        have s3 : Same H (upd (upd H2 l1 (.lst [])) l2 (.lst [])) := s12.trans ((same_upd (Same.refl H2) n1).trans (same_upd (Same.refl _) n2))
        exact ⟨-2, l1, wa, l2, [], ws, [], rfl, SqL.of e1, s3.seq hwa, SqL.of upd_same, Nat.zero_le _, by rw [hw]; decide, Nat.zero_le _, k⟩
end
end Sl
set_option Elab.async false
set_option linter.all false
set_option maxRecDepth 100000
set_option maxHeartbeats 4000000
namespace Sl
open PySem PySem.Spec PyProof.Rows L2 SlM
/-- a def of the top: the name that it is called by, its own, its statement -/
def SrcN (K : PySem.W.Frag) (mg : Str → Option Value) (g name : Str) (st : Stmt) : Prop := ∃ f fd, mg g = some (.ref f) ∧ Fun K name name st f fd
theorem SrcN.df {P : Program} {w : World} {K : PySem.W.Frag} {mg : Str → Option Value} {base : Heap} {g name : Str} {st : Stmt} {ps : List Str} {CX : CXT} {k : Nat} {sp : Sp} (s : SrcN K mg g name st)
    (h : ∀ (kV doc pm : Value) (an : Option Addr) (cdv ct : Value) (us : List Value), us.length = ps.length → bindArgs (PySem.W.fnOf name name (defArgs st) (defBody st) (defScope st) .none kV doc pm an cdv ct) ⟨us, []⟩ = pure (ps.zip us))
    (ok : ∀ f fd, Fun K name name st f fd → FnOk P w K mg base CX k f fd ps sp) : Df P w K mg base CX k g ps sp := by
  obtain ⟨f, fd, hm, F⟩ := s
  exact ⟨f, fd, hm, F.kp, F.binds h, ok f fd F⟩
def Srcs (K : PySem.W.Frag) (mg : Str → Option Value) : Prop := ∀ (i : Nat) (d : Str × Str × Stmt), defsL[i]? = some d → SrcN K mg d.1 d.2.1 d.2.2
structure Tops (K : PySem.W.Frag) (w : World) (mg : Str → Option Value) : Prop where
  n_len : mg "len" = none
  n_int : mg "int" = none
  n_isinstance : mg "isinstance" = none
  n_str : mg "str" = none
  n_ord : mg "ord" = none
  n_zip : mg "zip" = none
  n_enumerate : mg "enumerate" = none
  n_bool : mg "bool" = none
  n_min : mg "min" = none
  n_abs : mg "abs" = none
  n_range : mg "range" = none
  n_reversed : mg "reversed" = none
  n_list : mg "list" = none
  n_any : mg "any" = none
  cL : TxtC mg "LETTERS" (.str letters)
  cD : TxtC mg "DIGITS" (.str digits)
  cM : TxtC mg "MARKS" (.str marks)
  cB : TxtC mg "BLANKS" (.str blanks)
  cO : TxtC mg "OTHERS" (.str others)
  cU : TxtC mg "UNKNOWN" (.str (Str.ofString "?"))
  iR : TxtC mg "ROW_LIMIT" (.int 255)
  iW : TxtC mg "WORD_LIMIT" (.int 15)
  iB : TxtC mg "NUMBER_BOUND" (.int 2147483648)
  iT : TxtC mg "TEXT_LIMIT" (.int 65536)
  iD : TxtC mg "DEPTH_LIMIT" (.int 8)
  iI : TxtC mg "INSTRUCTION_LIMIT" (.int 4096)
  iX : TxtC mg "WORD_BOUND" (.int 2147483648)
  iS : TxtC mg "STEP_LIMIT" (.int 100000)
  iC : TxtC mg "SCAN_LIMIT" (.int 65536)
  tC : NumTab K w mg "CONSTANTS" constT
  tS : NumTab K w mg "SIZES" sizeT
  tK : TupTab K w mg "KINDS" kinds
  tF : TupTab K w mg "FORMS" forms
  tA : FnTab K w mg "ACTIONS" actTab
  tB : FnTab K w mg "BIT_OPERATIONS" bitOps
  tW : FnTab K w mg "WORD_OPERATIONS" wordOps
  pO : TupC K mg "MAY_BE_PUT_OFF" putOff
  pJ : TupC K mg "JUMPS" jumpN
  pN : TupC K mg "NOT_IN_PARENTHESES" noPar
/-- its classes -/
structure Clss (K : PySem.W.Frag) (mg : Str → Option Value) : Prop where
  un : ∃ C, UnTxt K mg C
  nap : ∃ C f, PySem.NapX.NapTxt K mg C f
  ln : ∃ C f fd, LnTxt K mg C f fd
  cnt : ∃ C f fd, CntTxt K mg C f fd
  tim : ∃ C f fd, TimTxt K mg C f fd
  mach : ∃ C f fd, MTxt K mg C f fd
  step : ∃ C f fd, STxt K mg C f fd
  fau : ∃ CF fc, Faults K mg CF fc
  stp : ∃ C f, PySem.StpX.StpTxt K mg C f ∧ PySem.W.exmOne K (.ref C) (.ref C) = some true
theorem run_all {P : Program} {w : World} {K : PySem.W.Frag} {mg : Str → Option Value} {fa : Addr} (hfa : mg "run" = some (.ref fa)) (C : Clss K mg) (T : Tops K w mg) (S : Srcs K mg) :
    ∃ fd : FuncData, (∀ (s : Shared) (us : List Value), us.length = (["text", "inputs", "times", "words"] : List Str).length → BindsTo s fd ⟨us, []⟩ ((["text", "inputs", "times", "words"] : List Str).zip us)) ∧ ∀ base : Heap, FnOk P w K mg base CX0 12 fa fd ["text", "inputs", "times", "words"] (spRunC K) := by
  obtain ⟨CU, U⟩ := C.un
  obtain ⟨CN, fN, N⟩ := C.nap
  obtain ⟨CL, fI, fdI, L⟩ := C.ln
  obtain ⟨CC, fC, fdC, TC⟩ := C.cnt
  obtain ⟨CT, fT, fdT, TT⟩ := C.tim
  obtain ⟨CM, fM, fdM, M⟩ := C.mach
  obtain ⟨CS, fS, fdS, TS⟩ := C.step
  obtain ⟨CF, fc, FA⟩ := C.fau
  obtain ⟨CP, fP, TP, tP⟩ := C.stp
  obtain ⟨fr, fdr, mr, Fr⟩ := S 87 _ rfl
  have e := hfa.symm.trans mr
  cases e
  have key : ∀ base : Heap, FnOk P w K mg base CX0 12 fa fdr ["text", "inputs", "times", "words"] (spRunC K) := fun base => by
    have d_run : Df P w K mg base CX0 1 "end_of_run" ["row", "start", "members"] spRun := (S 5 _ rfl).df (fun _ _ _ _ _ _ us hl => match us, hl with | [_, _, _], _ => by kernel_rfl) fun f fd F => ok_run F T.n_len
    have d_num : Df P w K mg base (L2N.CX P w) 2 "end_of_number" ["row", "start"] (spNum CU) := (S 4 _ rfl).df (fun _ _ _ _ _ _ us hl => match us, hl with | [_, _], _ => by kernel_rfl) fun f fd F => ok_num F U T.cD d_run
    have d_send : Df P w K mg base (L2N.CX P w) 3 "end_of_sign" ["row", "start"] (spSignEnd CU) := (S 3 _ rfl).df (fun _ _ _ _ _ _ us hl => match us, hl with | [_, _], _ => by kernel_rfl) fun f fd F => ok_send F T.cL T.cD T.cM d_run d_num
    have d_word : Df P w K mg base (L2N.CX P w) 1 "word_of_signs" ["text"] (spWordOf CU) := (S 7 _ rfl).df (fun _ _ _ _ _ _ us hl => match us, hl with | [_], _ => by kernel_rfl) fun f fd F => ok_wordOf F U T.n_len T.iW
    have d_nof : Df P w K mg base (L2N.CX P w) 1 "number_of" ["text"] (spNumberOf CU) := (S 8 _ rfl).df (fun _ _ _ _ _ _ us hl => match us, hl with | [_], _ => by kernel_rfl) fun f fd F => ok_numberOf F U T.n_int T.iB
    have d_sof : Df P w K mg base (L2N.CX P w) 2 "sign_of" ["text"] (spSignOf CU) := (S 6 _ rfl).df (fun _ _ _ _ _ _ us hl => match us, hl with | [_], _ => by kernel_rfl) fun f fd F => ok_signOf F T.cL T.cM d_word d_nof
    have d_isw : Df P w K mg base CX0 1 "is_word" ["sign"] spIsWord := (S 9 _ rfl).df (fun _ _ _ _ _ _ us hl => match us, hl with | [_], _ => by kernel_rfl) fun f fd F => ok_isWord F T.cL T.n_isinstance T.n_str
    have d_pln : Df P w K mg base CX0 1 "is_plain_number" ["digits"] spPlain := (S 14 _ rfl).df (fun _ _ _ _ _ _ us hl => match us, hl with | [_], _ => by kernel_rfl) fun f fd F => ok_plain F
    have d_sgs : Df P w K mg base (L2N.CX P w) 4 "signs_of" ["row"] (spSigns CU) := (S 2 _ rfl).df (fun _ _ _ _ _ _ us hl => match us, hl with | [_], _ => by kernel_rfl) fun f fd F => ok_signs F U T.n_len T.iR T.cB d_send d_sof
    have d_txt : Df P w K mg base CX0 1 "text_of" ["codes"] (spText K) := (S 1 _ rfl).df (fun _ _ _ _ _ _ us hl => match us, hl with | [_], _ => by kernel_rfl) fun f fd F => ok_text F T.cL T.cD T.cM T.cB T.cO T.cU T.n_ord
    have d_row : Df P w K mg base CX0 2 "rows_of" ["codes"] (spRows K) := (S 0 _ rfl).df (fun _ _ _ _ _ _ us hl => match us, hl with | [_], _ => by kernel_rfl) fun f fd F => ok_rows F d_txt
    have d_nam : Df P w K mg base CX0 2 "named_value" ["word"] spNamed := (S 13 _ rfl).df (fun _ _ _ _ _ _ us hl => match us, hl with | [_], _ => by kernel_rfl) fun f fd F => ok_named F T.tC T.tS T.n_int d_pln
    have d_val : Df P w K mg base (L2N.CX P w) 3 "value_of" ["sign"] (spValue CU) := (S 12 _ rfl).df (fun _ _ _ _ _ _ us hl => match us, hl with | [_], _ => by kernel_rfl) fun f fd F => ok_value F U T.n_isinstance T.n_int d_nam
    have d_lbo : Df P w K mg base (L2N.CX P w) 2 "label_of" ["sign"] (spLabelOf CU) := (S 11 _ rfl).df (fun _ _ _ _ _ _ us hl => match us, hl with | [_], _ => by kernel_rfl) fun f fd F => ok_labelOf F U d_isw
    have d_opd : Df P w K mg base (L2N.CX P w) 4 "read_operand" ["sign", "form"] (spOpd CU) := (S 10 _ rfl).df (fun _ _ _ _ _ _ us hl => match us, hl with | [_, _], _ => by kernel_rfl) fun f fd F => ok_opd F U T.tK d_lbo d_val
    have d_lab : Df P w K mg base (L2N.CX P w) 3 "read_label" ["sign"] (spLabel CU) := (S 16 _ rfl).df (fun _ _ _ _ _ _ us hl => match us, hl with | [_], _ => by kernel_rfl) fun f fd F => ok_label F U d_isw d_nam
    have d_ops : Df P w K mg base (L2N.CX P w) 5 "read_operands" ["signs", "forms"] (spOps K CU) := (S 19 _ rfl).df (fun _ _ _ _ _ _ us hl => match us, hl with | [_, _], _ => by kernel_rfl) fun f fd F => ok_ops F U T.n_len T.n_zip d_opd
    have d_put : Df P w K mg base (L2N.CX P w) 6 "read_put_off" ["name", "signs"] (spPut K CU) := (S 18 _ rfl).df (fun _ _ _ _ _ _ us hl => match us, hl with | [_, _], _ => by kernel_rfl) fun f fd F => ok_put F U T.pO d_ops
    have d_ins : Df P w K mg base (L2N.CX P w) 7 "read_instruction" ["label", "signs"] (spIns K CU CL) := (S 17 _ rfl).df (fun _ _ _ _ _ _ us hl => match us, hl with | [_, _], _ => by kernel_rfl) fun f fd F => ok_ins F U L T.n_len T.tF d_ops d_put
    have d_lin : Df P w K mg base (L2N.CX P w) 8 "read_line" ["row"] (spLine CU CL) := (S 15 _ rfl).df (fun _ _ _ _ _ _ us hl => match us, hl with | [_], _ => by kernel_rfl) fun f fd F => ok_line F T.n_len d_sgs d_lab d_ins
    have d_dep : Df P w K mg base (L2N.CX P w) 1 "depth_behind" ["line", "depth"] (spDepth CU CL) := (S 22 _ rfl).df (fun _ _ _ _ _ _ us hl => match us, hl with | [_, _], _ => by kernel_rfl) fun f fd F => ok_depth F U L T.iD T.pN
    have d_cnt : Df P w K mg base (L2N.CX P w) 1 "instructions_with" ["line", "instructions"] (spCount CU CL) := (S 23 _ rfl).df (fun _ _ _ _ _ _ us hl => match us, hl with | [_, _], _ => by kernel_rfl) fun f fd F => ok_count F U L T.iI
    have d_lbs : Df P w K mg base CX0 1 "labels_of" ["lines"] (spLabels CL) := (S 25 _ rfl).df (fun _ _ _ _ _ _ us hl => match us, hl with | [_], _ => by kernel_rfl) fun f fd F => ok_labels F L
    have d_ref : Df P w K mg base (L2K.CX P w) 2 "refuse_wrong_labels" ["lines"] (spRefuse CL CN) := (S 24 _ rfl).df (fun _ _ _ _ _ _ us hl => match us, hl with | [_], _ => by kernel_rfl) fun f fd F => ok_refuse F N L T.n_enumerate T.pJ d_lbs
    have d_rls : Df P w K mg base (L2K.CX P w) 9 "read_lines" ["rows"] (spRLines K CL CN) := (S 21 _ rfl).df (fun _ _ _ _ _ _ us hl => match us, hl with | [_], _ => by kernel_rfl) fun f fd F => ok_rlines F U N T.n_len d_lin d_dep d_cnt
    have d_rpg : Df P w K mg base (L2K.CX P w) 10 "read_program" ["codes"] (spProg K CL CN) := (S 20 _ rfl).df (fun _ _ _ _ _ _ us hl => match us, hl with | [_], _ => by kernel_rfl) fun f fd F => ok_prog F N T.n_len T.iT d_row d_rls d_ref
    have d_siz : Df P w K mg base CX0 1 "size_of" ["kind"] spSize := (S 26 _ rfl).df (fun _ _ _ _ _ _ us hl => match us, hl with | [_], _ => by kernel_rfl) fun f fd F => ok_siz F T.tS
    have d_bit : Df P w K mg base (L2N.CX P w) 4 "bit_of" ["value"] (spBit fc) := (S 27 _ rfl).df (fun _ _ _ _ _ _ us hl => match us, hl with | [_], _ => by kernel_rfl) fun f fd F => ok_bit F FA T.n_isinstance T.n_bool
    have d_wrd : Df P w K mg base (L2N.CX P w) 4 "word_of_results" ["value"] (spWord fc) := (S 90 _ rfl).df (fun _ _ _ _ _ _ us hl => match us, hl with | [_], _ => by kernel_rfl) fun f fd F => ok_wrd F FA T.n_isinstance T.n_bool
    have d_rng : Df P w K mg base (L2N.CX P w) 4 "in_range" ["word"] (spRange fc) := (S 28 _ rfl).df (fun _ _ _ _ _ _ us hl => match us, hl with | [_], _ => by kernel_rfl) fun f fd F => ok_rng F FA T.iX
    have d_mor : Df P w K mg base CX0 1 "one_more" ["word"] spMore := (S 29 _ rfl).df (fun _ _ _ _ _ _ us hl => match us, hl with | [_], _ => by kernel_rfl) fun f fd F => ok_mor F T.n_min T.iX
    have d_zer : Df P w K mg base (L2N.CX P w) 4 "refuse_zero" ["divisor"] (spZero fc) := (S 53 _ rfl).df (fun _ _ _ _ _ _ us hl => match us, hl with | [_], _ => by kernel_rfl) fun f fd F => ok_zer F FA
    have o_0 : Df P w K mg base (L2N.CX P w) 5 "both" ["left", "right"] (spOp fc (.logic .and false)) := (S 42 _ rfl).df (fun _ _ _ _ _ _ us hl => match us, hl with | [_, _], _ => by kernel_rfl) fun f fd F => ok_both F
    have o_1 : Df P w K mg base (L2N.CX P w) 5 "either" ["left", "right"] (spOp fc (.logic .or false)) := (S 43 _ rfl).df (fun _ _ _ _ _ _ us hl => match us, hl with | [_, _], _ => by kernel_rfl) fun f fd F => ok_either F
    have o_2 : Df P w K mg base (L2N.CX P w) 5 "differing" ["left", "right"] (spOp fc (.logic .xor false)) := (S 44 _ rfl).df (fun _ _ _ _ _ _ us hl => match us, hl with | [_, _], _ => by kernel_rfl) fun f fd F => ok_differing_b F
    have o_3 : Df P w K mg base (L2N.CX P w) 5 "left_alone" ["left", "right"] (spOp fc (.logic .and true)) := (S 45 _ rfl).df (fun _ _ _ _ _ _ us hl => match us, hl with | [_, _], _ => by kernel_rfl) fun f fd F => ok_left_alone F
    have o_4 : Df P w K mg base (L2N.CX P w) 5 "left_or_other" ["left", "right"] (spOp fc (.logic .or true)) := (S 46 _ rfl).df (fun _ _ _ _ _ _ us hl => match us, hl with | [_, _], _ => by kernel_rfl) fun f fd F => ok_left_or_other F
    have o_5 : Df P w K mg base (L2N.CX P w) 5 "alike" ["left", "right"] (spOp fc (.logic .xor true)) := (S 47 _ rfl).df (fun _ _ _ _ _ _ us hl => match us, hl with | [_, _], _ => by kernel_rfl) fun f fd F => ok_alike_b F
    have o_6 : Df P w K mg base (L2N.CX P w) 5 "sum_of" ["left", "right"] (spOp fc (.arith .add)) := (S 48 _ rfl).df (fun _ _ _ _ _ _ us hl => match us, hl with | [_, _], _ => by kernel_rfl) fun f fd F => ok_sum_of F d_rng
    have o_7 : Df P w K mg base (L2N.CX P w) 5 "difference" ["left", "right"] (spOp fc (.arith .sub)) := (S 49 _ rfl).df (fun _ _ _ _ _ _ us hl => match us, hl with | [_, _], _ => by kernel_rfl) fun f fd F => ok_difference F d_rng
    have o_8 : Df P w K mg base (L2N.CX P w) 5 "product" ["left", "right"] (spOp fc (.arith .mul)) := (S 50 _ rfl).df (fun _ _ _ _ _ _ us hl => match us, hl with | [_, _], _ => by kernel_rfl) fun f fd F => ok_product F d_rng
    have o_9 : Df P w K mg base (L2N.CX P w) 5 "quotient" ["left", "right"] (spOp fc (.arith .div)) := (S 51 _ rfl).df (fun _ _ _ _ _ _ us hl => match us, hl with | [_, _], _ => by kernel_rfl) fun f fd F => ok_quotient F T.n_abs d_zer d_rng
    have o_10 : Df P w K mg base (L2N.CX P w) 5 "remainder" ["left", "right"] (spOp fc (.arith .mod)) := (S 52 _ rfl).df (fun _ _ _ _ _ _ us hl => match us, hl with | [_, _], _ => by kernel_rfl) fun f fd F => ok_remainder F T.n_abs d_zer
    have o_11 : Df P w K mg base (L2N.CX P w) 5 "greater" ["left", "right"] (spOp fc (.cmp .gt)) := (S 54 _ rfl).df (fun _ _ _ _ _ _ us hl => match us, hl with | [_, _], _ => by kernel_rfl) fun f fd F => ok_greater F
    have o_12 : Df P w K mg base (L2N.CX P w) 5 "not_less" ["left", "right"] (spOp fc (.cmp .ge)) := (S 55 _ rfl).df (fun _ _ _ _ _ _ us hl => match us, hl with | [_, _], _ => by kernel_rfl) fun f fd F => ok_not_less F
    have o_13 : Df P w K mg base (L2N.CX P w) 5 "alike" ["left", "right"] (spOp fc (.cmp .eq)) := (S 47 _ rfl).df (fun _ _ _ _ _ _ us hl => match us, hl with | [_, _], _ => by kernel_rfl) fun f fd F => ok_alike_w F
    have o_14 : Df P w K mg base (L2N.CX P w) 5 "differing" ["left", "right"] (spOp fc (.cmp .ne)) := (S 44 _ rfl).df (fun _ _ _ _ _ _ us hl => match us, hl with | [_, _], _ => by kernel_rfl) fun f fd F => ok_differing_w F
    have o_15 : Df P w K mg base (L2N.CX P w) 5 "not_greater" ["left", "right"] (spOp fc (.cmp .le)) := (S 56 _ rfl).df (fun _ _ _ _ _ _ us hl => match us, hl with | [_, _], _ => by kernel_rfl) fun f fd F => ok_not_greater F
    have o_16 : Df P w K mg base (L2N.CX P w) 5 "less" ["left", "right"] (spOp fc (.cmp .lt)) := (S 57 _ rfl).df (fun _ _ _ _ _ _ us hl => match us, hl with | [_, _], _ => by kernel_rfl) fun f fd F => ok_less F
    have d_op : ∀ o : Sf47.Bin, Df P w K mg base (L2N.CX P w) 5 (opFn o) ["left", "right"] (spOp fc o) := fun o => match o with
      | .logic .and false => o_0
      | .logic .or false => o_1
      | .logic .xor false => o_2
      | .logic .and true => o_3
      | .logic .or true => o_4
      | .logic .xor true => o_5
      | .arith .add => o_6
      | .arith .sub => o_7
      | .arith .mul => o_8
      | .arith .div => o_9
      | .arith .mod => o_10
      | .cmp .gt => o_11
      | .cmp .ge => o_12
      | .cmp .eq => o_13
      | .cmp .ne => o_14
      | .cmp .le => o_15
      | .cmp .lt => o_16
    have d_wrk : Df P w K mg base (L2N.CX P w) 6 "work_out" ["name", "left", "right"] (spWork fc) := (S 58 _ rfl).df (fun _ _ _ _ _ _ us hl => match us, hl with | [_, _, _], _ => by kernel_rfl) fun f fd F => ok_wrk F T.tB T.tW d_bit d_wrd d_op
    have d_cup : Df P w K mg base CX0 2 "count_up" ["counter", "on", "limit"] (spUp CC) := (S 30 _ rfl).df (fun _ _ _ _ _ _ us hl => match us, hl with | [_, _, _], _ => by kernel_rfl) fun f fd F => ok_cup F TC d_mor
    have d_rst : Df P w K mg base CX0 1 "reset" ["counter"] (spReset CC) := (S 31 _ rfl).df (fun _ _ _ _ _ _ us hl => match us, hl with | [_], _ => by kernel_rfl) fun f fd F => ok_rst F TC
    have d_don : Df P w K mg base CX0 1 "delay_on" ["timer", "on", "limit", "now"] (spDel CT .ton) := (S 33 _ rfl).df (fun _ _ _ _ _ _ us hl => match us, hl with | [_, _, _, _], _ => by kernel_rfl) fun f fd F => ok_don F TT T.n_min
    have d_dof : Df P w K mg base CX0 1 "delay_off" ["timer", "on", "limit", "now"] (spDel CT .tof) := (S 34 _ rfl).df (fun _ _ _ _ _ _ us hl => match us, hl with | [_, _, _, _], _ => by kernel_rfl) fun f fd F => ok_dof F TT T.n_min
    have d_pul : Df P w K mg base CX0 1 "pulse" ["timer", "on", "limit", "now"] (spDel CT .tp) := (S 35 _ rfl).df (fun _ _ _ _ _ _ us hl => match us, hl with | [_, _, _, _], _ => by kernel_rfl) fun f fd F => ok_pul F TT T.n_min
    have d_use : Df P w K mg base CX0 2 "use_timer" ["timer", "name", "on", "limit", "now"] (spUse CT) := (S 32 _ rfl).df (fun _ _ _ _ _ _ us hl => match us, hl with | [_, _, _, _, _], _ => by kernel_rfl) fun f fd F => ok_use F TT d_don d_dof d_pul
    have d_sht : Df P w K mg base CX0 1 "show_timer" ["machine", "number"] (spShT CM CT CC) := (S 40 _ rfl).df (fun _ _ _ _ _ _ us hl => match us, hl with | [_, _], _ => by kernel_rfl) fun f fd F => ok_ShT F M TT
    have d_shc : Df P w K mg base CX0 1 "show_counter" ["machine", "number"] (spShC CM CT CC) := (S 41 _ rfl).df (fun _ _ _ _ _ _ us hl => match us, hl with | [_, _], _ => by kernel_rfl) fun f fd F => ok_ShC F M TC
    have d_beg : Df P w K mg base CX0 2 "begin_scan" ["machine", "bits", "now"] (spBeg CM CT CC) := (S 37 _ rfl).df (fun _ _ _ _ _ _ us hl => match us, hl with | [_, _, _], _ => by kernel_rfl) fun f fd F => ok_beg F M T.n_range d_siz
    have d_out : Df P w K mg base CX0 1 "output_of" ["machine"] (spOut CM CT CC) := (S 38 _ rfl).df (fun _ _ _ _ _ _ us hl => match us, hl with | [_], _ => by kernel_rfl) fun f fd F => ok_out F M T.n_reversed
    have d_wds : Df P w K mg base CX0 1 "words_of" ["machine"] (spWds CM CT CC) := (S 39 _ rfl).df (fun _ _ _ _ _ _ us hl => match us, hl with | [_], _ => by kernel_rfl) fun f fd F => ok_wds F M T.n_list
    have a_load : Df P w K mg base (L2N.CX P w) 8 "load" ["machine", "step"] (spAct CM CT CC CS fc (fun i => ∃ x, i = .ld x)) := (S 59 _ rfl).df (fun _ _ _ _ _ _ us hl => match us, hl with | [_, _], _ => by kernel_rfl) fun f fd F => ok_load F M TS
    have a_load_other : Df P w K mg base (L2N.CX P w) 8 "load_other" ["machine", "step"] (spAct CM CT CC CS fc (fun i => ∃ b, i = .ldn b)) := (S 60 _ rfl).df (fun _ _ _ _ _ _ us hl => match us, hl with | [_, _], _ => by kernel_rfl) fun f fd F => ok_load_other F M TS
    have a_store_bit : Df P w K mg base (L2N.CX P w) 8 "store_bit" ["machine", "step"] (spAct CM CT CC CS fc (fun i => ∃ b, i = .st false b)) := (S 61 _ rfl).df (fun _ _ _ _ _ _ us hl => match us, hl with | [_, _], _ => by kernel_rfl) fun f fd F => ok_store_bit F M TS d_bit
    have a_store_other : Df P w K mg base (L2N.CX P w) 8 "store_other" ["machine", "step"] (spAct CM CT CC CS fc (fun i => ∃ b, i = .st true b)) := (S 62 _ rfl).df (fun _ _ _ _ _ _ us hl => match us, hl with | [_, _], _ => by kernel_rfl) fun f fd F => ok_store_other F M TS d_bit
    have a_store_word : Df P w K mg base (L2N.CX P w) 8 "store_word" ["machine", "step"] (spAct CM CT CC CS fc (fun i => ∃ k, i = .stw k)) := (S 63 _ rfl).df (fun _ _ _ _ _ _ us hl => match us, hl with | [_, _], _ => by kernel_rfl) fun f fd F => ok_store_word F M TS d_wrd
    have a_set_bit : Df P w K mg base (L2N.CX P w) 8 "set_bit" ["machine", "step"] (spAct CM CT CC CS fc (fun i => ∃ b, i = .put true b)) := (S 64 _ rfl).df (fun _ _ _ _ _ _ us hl => match us, hl with | [_, _], _ => by kernel_rfl) fun f fd F => ok_set_bit F M TS d_bit
    have a_clear_bit : Df P w K mg base (L2N.CX P w) 8 "clear_bit" ["machine", "step"] (spAct CM CT CC CS fc (fun i => ∃ b, i = .put false b)) := (S 65 _ rfl).df (fun _ _ _ _ _ _ us hl => match us, hl with | [_, _], _ => by kernel_rfl) fun f fd F => ok_clear_bit F M TS d_bit
    have a_turn : Df P w K mg base (L2N.CX P w) 8 "turn" ["machine", "step"] (spAct CM CT CC CS fc (fun i => i = .not)) := (S 66 _ rfl).df (fun _ _ _ _ _ _ us hl => match us, hl with | [_, _], _ => by kernel_rfl) fun f fd F => ok_turn F M TS d_bit
    have a_operate : Df P w K mg base (L2N.CX P w) 8 "operate" ["machine", "step"] (spAct CM CT CC CS fc (fun i => ∃ o x, i = .bin o x)) := (S 67 _ rfl).df (fun _ _ _ _ _ _ us hl => match us, hl with | [_, _], _ => by kernel_rfl) fun f fd F => ok_operate F M TS d_wrk
    have a_put_off : Df P w K mg base (L2N.CX P w) 8 "put_off" ["machine", "step"] (spAct CM CT CC CS fc (fun i => ∃ o x, i = .open_ o x)) := (S 68 _ rfl).df (fun _ _ _ _ _ _ us hl => match us, hl with | [_, _], _ => by kernel_rfl) fun f fd F => ok_put_off F M TS FA
    have a_close : Df P w K mg base (L2N.CX P w) 8 "close" ["machine", "step"] (spAct CM CT CC CS fc (fun i => i = .close)) := (S 69 _ rfl).df (fun _ _ _ _ _ _ us hl => match us, hl with | [_, _], _ => by kernel_rfl) fun f fd F => ok_close F M TS d_wrk
    have a_go_on : Df P w K mg base (L2N.CX P w) 8 "go_on" ["machine", "step"] (spAct CM CT CC CS fc (fun i => (∃ l, i = .jmp .always l) ∨ i = .ret false)) := (S 70 _ rfl).df (fun _ _ _ _ _ _ us hl => match us, hl with | [_, _], _ => by kernel_rfl) fun f fd F => ok_go_on F M TS
    have a_go_on_if : Df P w K mg base (L2N.CX P w) 8 "go_on_if" ["machine", "step"] (spAct CM CT CC CS fc (fun i => (∃ l, i = .jmp .one l) ∨ i = .ret true)) := (S 71 _ rfl).df (fun _ _ _ _ _ _ us hl => match us, hl with | [_, _], _ => by kernel_rfl) fun f fd F => ok_go_on_if F M TS d_bit
    have a_go_on_unless : Df P w K mg base (L2N.CX P w) 8 "go_on_unless" ["machine", "step"] (spAct CM CT CC CS fc (fun i => ∃ l, i = .jmp .zero l)) := (S 72 _ rfl).df (fun _ _ _ _ _ _ us hl => match us, hl with | [_, _], _ => by kernel_rfl) fun f fd F => ok_go_on_unless F M TS d_bit
    have a_run_timer : Df P w K mg base (L2N.CX P w) 8 "run_timer" ["machine", "step"] (spAct CM CT CC CS fc (fun i => ∃ k t v, i = .timer k t v)) := (S 73 _ rfl).df (fun _ _ _ _ _ _ us hl => match us, hl with | [_, _], _ => by kernel_rfl) fun f fd F => ok_run_timer F M TS d_bit TT d_use d_sht
    have a_run_counter : Df P w K mg base (L2N.CX P w) 8 "run_counter" ["machine", "step"] (spAct CM CT CC CS fc (fun i => ∃ c v, i = .ctu c v)) := (S 74 _ rfl).df (fun _ _ _ _ _ _ us hl => match us, hl with | [_, _], _ => by kernel_rfl) fun f fd F => ok_run_counter F M TS d_bit TC d_cup d_shc
    have a_reset_counter : Df P w K mg base (L2N.CX P w) 8 "reset_counter" ["machine", "step"] (spAct CM CT CC CS fc (fun i => ∃ c, i = .rc c)) := (S 75 _ rfl).df (fun _ _ _ _ _ _ us hl => match us, hl with | [_, _], _ => by kernel_rfl) fun f fd F => ok_reset_counter F M TS d_bit d_rst d_shc
    have a_rise : Df P w K mg base (L2N.CX P w) 8 "rise" ["machine", "step"] (spAct CM CT CC CS fc (fun i => ∃ k, i = .edge true k)) := (S 76 _ rfl).df (fun _ _ _ _ _ _ us hl => match us, hl with | [_, _], _ => by kernel_rfl) fun f fd F => ok_rise F M TS d_bit
    have a_fall : Df P w K mg base (L2N.CX P w) 8 "fall" ["machine", "step"] (spAct CM CT CC CS fc (fun i => ∃ k, i = .edge false k)) := (S 77 _ rfl).df (fun _ _ _ _ _ _ us hl => match us, hl with | [_, _], _ => by kernel_rfl) fun f fd F => ok_fall F M TS d_bit
    have hold : ∀ {g : Str} {R : Sf47.Insn → Prop} (i : Sf47.Insn), actFn i = g → R i → Df P w K mg base (L2N.CX P w) 8 g ["machine", "step"] (spAct CM CT CC CS fc R) → ∃ (f : Addr) (R : Sf47.Insn → Prop), mg (actFn i) = some (.ref f) ∧ R i ∧ HeldF P w K mg base (L2N.CX P w) 8 f (spAct CM CT CC CS fc R) := fun {g R} i e hR d => by
      obtain ⟨f, fd, hm, hk, hb, hF⟩ := d
      exact ⟨f, R, by rw [e]; exact hm, hR, fd, _, hF, hk, hb⟩
    have d_act : Acts P w K mg base CM CT CC CS fc := fun i => match i with
      | .ld x => hold _ rfl ⟨x, rfl⟩ a_load
      | .ldn b => hold _ rfl ⟨b, rfl⟩ a_load_other
      | .st false b => hold _ rfl ⟨b, rfl⟩ a_store_bit
      | .st true b => hold _ rfl ⟨b, rfl⟩ a_store_other
      | .stw n => hold _ rfl ⟨n, rfl⟩ a_store_word
      | .put true b => hold _ rfl ⟨b, rfl⟩ a_set_bit
      | .put false b => hold _ rfl ⟨b, rfl⟩ a_clear_bit
      | .not => hold (R := fun i => i = .not) _ rfl rfl a_turn
      | .bin o x => hold _ rfl ⟨o, x, rfl⟩ a_operate
      | .open_ o x => hold _ rfl ⟨o, x, rfl⟩ a_put_off
      | .close => hold (R := fun i => i = .close) _ rfl rfl a_close
      | .jmp .always l => hold _ rfl (.inl ⟨l, rfl⟩) a_go_on
      | .jmp .one l => hold _ rfl (.inl ⟨l, rfl⟩) a_go_on_if
      | .jmp .zero l => hold _ rfl ⟨l, rfl⟩ a_go_on_unless
      | .ret false => hold _ rfl (.inr rfl) a_go_on
      | .ret true => hold _ rfl (.inr rfl) a_go_on_if
      | .timer k t v => hold _ rfl ⟨k, t, v, rfl⟩ a_run_timer
      | .ctu c v => hold _ rfl ⟨c, v, rfl⟩ a_run_counter
      | .rc c => hold _ rfl ⟨c, rfl⟩ a_reset_counter
      | .edge true m => hold _ rfl ⟨m, rfl⟩ a_rise
      | .edge false m => hold _ rfl ⟨m, rfl⟩ a_fall
    have h_act : ∀ i : Sf47.Insn, ∃ g, mg (actFn i) = some (.ref g) := fun i => by
      obtain ⟨f, R, hm, _⟩ := d_act i
      exact ⟨f, hm⟩
    obtain ⟨gP, hgP⟩ : ∃ g, mg "put_off" = some (.ref g) := by
      obtain ⟨f, fd, hm, _⟩ := a_put_off
      exact ⟨f, hm⟩
    obtain ⟨gW, hgW⟩ : ∃ g, mg "store_word" = some (.ref g) := by
      obtain ⟨f, fd, hm, _⟩ := a_store_word
      exact ⟨f, hm⟩
    obtain ⟨gO, hgO⟩ : ∃ g, mg "operate" = some (.ref g) := by
      obtain ⟨f, fd, hm, _⟩ := a_operate
      exact ⟨f, hm⟩
    have d_aof : Df P w K mg base CX0 1 "action_of" ["line"] (spActOf CL mg) := (S 78 _ rfl).df (fun _ _ _ _ _ _ us hl => match us, hl with | [_], _ => by kernel_rfl) fun f fd F => ok_aof F L T.tA hgP hgW hgO
    have d_plc : Df P w K mg base CX0 1 "place_of" ["line", "cells"] (spPlace CL) := (S 81 _ rfl).df (fun _ _ _ _ _ _ us hl => match us, hl with | [_, _], _ => by kernel_rfl) fun f fd F => ok_plc F L T.n_len
    have d_lim : Df P w K mg base CX0 1 "limit_of" ["line"] (spLimit CL) := (S 82 _ rfl).df (fun _ _ _ _ _ _ us hl => match us, hl with | [_], _ => by kernel_rfl) fun f fd F => ok_lim F L T.n_len
    have d_tgs : Df P w K mg base CX0 1 "targets_of" ["lines"] (spTgs CL) := (S 80 _ rfl).df (fun _ _ _ _ _ _ us hl => match us, hl with | [_], _ => by kernel_rfl) fun f fd F => ok_tgs F L
    have d_tgt : Df P w K mg base CX0 1 "target_of" ["line", "targets", "end"] (spTgt CL) := (S 83 _ rfl).df (fun _ _ _ _ _ _ us hl => match us, hl with | [_, _, _], _ => by kernel_rfl) fun f fd F => ok_tgt F L T.n_len
    have d_sts : Df P w K mg base CX0 3 "steps_of" ["lines", "cells"] (spSteps CL CS mg) := (S 79 _ rfl).df (fun _ _ _ _ _ _ us hl => match us, hl with | [_, _], _ => by kernel_rfl) fun f fd F => ok_sts F L TS T.n_len T.n_enumerate h_act d_tgs d_plc d_tgt d_aof d_lim
    have d_cel : Df P w K mg base CX0 2 "new_cells" ["words"] (spCells K) := (S 36 _ rfl).df (fun _ _ _ _ _ _ us hl => match us, hl with | [_], _ => by kernel_rfl) fun f fd F => ok_cel F T.n_list d_siz
    have d_stp : Df P w K mg base (L2N.CX P w) 9 "do_step" ["machine", "step", "done"] (spStp CM CT CC CS fc mg) := (S 86 _ rfl).df (fun _ _ _ _ _ _ us hl => match us, hl with | [_, _, _], _ => by kernel_rfl) fun f fd F => ok_stp F FA TS T.iS d_act
    have d_scn : Df P w K mg base (L2.CX P w) 10 "do_scan" ["machine", "steps"] (spScan CM CT CC CS CP mg) := (S 85 _ rfl).df (fun _ _ _ _ _ _ us hl => match us, hl with | [_, _], _ => by kernel_rfl) fun f fd F => ok_scn F FA M TS TP T.n_len d_stp
    have d_scs : Df P w K mg base CX0 11 "do_scans" ["lines", "inputs", "times", "words"] (spScans K CL) := (S 84 _ rfl).df (fun _ _ _ _ _ _ us hl => match us, hl with | [_, _, _, _], _ => by kernel_rfl) fun f fd F => ok_scs F M TT TC TP tP T.n_len T.n_zip T.n_range d_siz d_cel d_sts d_wds d_beg d_out d_scn
    have d_tfl : Df P w K mg base CX0 1 "times_fall" ["times"] (spFall K) := (S 88 _ rfl).df (fun _ _ _ _ _ _ us hl => match us, hl with | [_], _ => by kernel_rfl) fun f fd F => ok_tfl F T.n_any T.n_zip
    obtain ⟨fA, fdA, mA, FAn⟩ := S 89 _ rfl
    exact ok_runC Fr N T.n_len T.iC d_rpg d_scs d_tfl mA FAn.kp (FAn.binds fun _ _ _ _ _ _ us hl => match us, hl with | [_, _, _, _], _ => by kernel_rfl) (ok_ans FAn T.n_len) (ok_ans2 FAn T.n_len)
  obtain ⟨oc, od, kV, doc, pm, an, cdv, ct, osl, hfd, lk, hcd⟩ := Fr.ex
  subst hfd
  exact ⟨_, fun s us hu => match us, hu with | [_, _, _, _], _ => .of_eq rfl, key⟩
end Sl
set_option Elab.async false
set_option linter.all false
set_option maxRecDepth 100000
set_option maxHeartbeats 4000000
namespace Sl
open PySem PySem.Spec PyProof.Rows L2 SlM He
/-! ### what is looked at behind the top -/
theorem excB_ok {K : PySem.W.Frag} {C : Addr} {tl : List Value} (q : excB K C tl = true) : ∃ nm qn N bs sn sub ab col dd k0 k1 k2 k3 k5, K.lookup C = some (excClassObj nm qn C N bs tl true sn sub ab col dd k0 k1 k2 k3 k5 "Exception.__new__") := by
  simp only [excB] at q
  split at q
  case h_2 => cases q
  case h_1 dd cd sl there =>
    split at q
    case h_2 => cases q
    case h_1 C' tail k0 k1 k2 k3 n k5 bases slots =>
      simp only [Bool.and_eq_true, beq_iff_eq, decide_eq_true_eq, Bool.not_eq_true'] at q
      obtain ⟨⟨⟨⟨rfl, rfl⟩, noDel⟩, hasD⟩, rfl⟩ := q
      rcases cd with ⟨nm, bs, mro, ns, qn, hd, sn, sub, ab, col, del⟩
      obtain rfl : mro = _ := bases
      obtain rfl : del = false := noDel
      obtain rfl : hd = true := hasD
      obtain rfl : sl = #[k0, k1, k2, k3, some (.builtin "Exception.__new__"), k5] := Array.toList_inj.mp slots
      exact ⟨nm, qn, ns, bs, sn, sub, ab, col, dd, k0, k1, k2, k3, k5, there⟩
theorem exmB_ok {K : PySem.W.Frag} {x : Str} (c : exmB K x = true) : PySem.W.findIn K (.ref (ga K x)) "__setattr__" = some (some (.builtin "object.__setattr__")) ∧ PySem.W.findIn K (.ref (ga K x)) "__getattribute__" = some (some (.builtin "BaseException.__getattribute__")) ∧ PySem.W.findIn K (.ref (ga K x)) "__getattr__" = some none ∧
    PySem.W.typeIn K (.ref (ma K (ga K x) "__init__")) = some (.type "function") ∧ PySem.W.subIn K (.ref (ga K x)) (.type "BaseException") = some true ∧ PySem.W.typeIn K (.ref (ga K x)) = some (.type "type") ∧ PySem.W.hasDictIn K (ga K x) = true := by
  obtain ⟨c1, c⟩ := ba c
  obtain ⟨c2, c⟩ := ba c
  obtain ⟨c3, c⟩ := ba c
  obtain ⟨c4, c⟩ := ba c
  obtain ⟨c5, c⟩ := ba c
  obtain ⟨c6, c7⟩ := ba c
  exact ⟨eqO_ok c1, eqO_ok c2, eqO_ok c3, of_decide_eq_true c4, of_decide_eq_true c5, of_decide_eq_true c6, c7⟩
/-! ### tables -/
theorem dict_ok {K : PySem.W.Frag} {x : Str} (c : dictB K x = true) : ∃ es n, K.lookup (ga K x) = some ⟨.type "dict", none, .dict es n, #[]⟩ ∧ (ga K x == sysModules) = false ∧ entsOf K x = es.toList := by
  unfold dictB at c
  unfold entsOf
  split at c
  · rename_i es n sl ho
    simp only [Bool.and_eq_true, Bool.not_eq_true'] at c
    have hs : sl = #[] := Array.isEmpty_iff.mp c.1
    subst hs
    exact ⟨es, n, ho, c.2, by rw [ho]⟩
  · cases c
theorem pair_ok {β : Type} {w : World} {f : β → Value → Bool} {R : β → Value → Prop} (hR : ∀ b u, f b u = true → R b u) : ∀ {l : List DictEntry} {m : List (Str × β)}, pairB f l m = true → l.map (·.hash) = m.map (fun p => PyData.keyHash w.params p.1) →
    Paired (fun (e : DictEntry) (p : Str × β) => (∃ t, e.key = .str p.1 t) ∧ e.hash = PyData.keyHash w.params p.1 ∧ R p.2 e.val) l m
  | [], [], _, _ => .nil
  | [], _ :: _, h, _ => by cases h
  | _ :: _, [], h, _ => by cases h
  | e :: l, p :: m, h, q => by
    unfold pairB at h
    obtain ⟨h1, h2⟩ := ba h
    obtain ⟨h3, h4⟩ := ba h1
    rw [List.map_cons, List.map_cons] at q
    obtain ⟨q1, q2⟩ := List.cons.inj q
    refine .cons ⟨?_, q1, hR _ _ h4⟩ (pair_ok hR h2 q2)
    split at h3
    · rename_i s t hk
      exact ⟨t, by rw [hk, of_decide_eq_true h3]⟩
    · cases h3
theorem tab_ok {β : Type} {K : PySem.W.Frag} {w : World} {x : Str} {f : β → Value → Bool} {R : β → Value → Prop} {m : List (Str × β)} (hR : ∀ b u, f b u = true → R b u) (c : dictB K x = true) (p : pairB f (entsOf K x) m = true) (q : (entsOf K x).map (·.hash) = m.map (fun p => PyData.keyHash w.params p.1)) : KTab K w (ga K x) R m := by
  obtain ⟨es, n, l, s, e⟩ := dict_ok c
  rw [e] at p q
  exact ⟨es, n, l, s, pair_ok hR p q⟩
theorem strs_ok : ∀ {l : List Value} {m : List Str}, strsB l m = true → Vals (m.map V.str) l
  | [], [], _ => .nil
  | [], _ :: _, h => by cases h
  | v :: l, [], h => by cases v <;> cases h
  | v :: l, k :: m, h => by
    cases v with
    | str s t =>
      obtain ⟨h1, h2⟩ := ba h
      exact .cons ⟨t, by rw [of_decide_eq_true h1]⟩ (strs_ok h2)
    | _ => cases h
theorem tup_ok {K : PySem.W.Frag} {ks : List Str} {u : Value} (h : tupB K ks u = true) : KTup K (ks.map V.str) u := by
  unfold tupB at h
  split at h
  · rename_i a
    split at h
    · rename_i od its n sl ho
      obtain ⟨h1, h2⟩ := ba h
      exact ⟨a, rfl, _, its, n, ho, rfl, rfl, Nat.le_trans (of_decide_eq_true h1) (by decide), strs_ok h2⟩
    · cases h
  · cases h
theorem intB_ok {n : Int} {u : Value} (h : intB n u = true) : L2.RelV (.int n) u := by
  cases u with
  | int j t => exact ⟨t, by rw [of_decide_eq_true h]⟩
  | _ => cases h
def hookR : PySem.W.Hook where
  α := AlR
  obs := fun s => obsR (frG s.heap.get? (asL s.heap.get?))
  val := valR
  says := fun w h => ∃ K : PySem.W.Frag, K.In h ∧ obsR K = valR w
  of := fun _ _ e => ⟨_, frG_in, e⟩
  keeps := fun _ _ _ ⟨K, hK, c⟩ k => ⟨K, PySem.W.Frag.In.keeps hK k, c⟩
section
variable {K : PySem.W.Frag} {w : World} {h : Heap} {mg : Str → Option Value}
theorem r_fa (c : obsR K = valR w) (i : Nat) {f : Fa} (e : faL[i]? = some f) : f.ok K = true :=
  List.all_eq_true.mp (ba (show ((faL.all fun f => f.ok K) && ((fnL.all fun d => (Fa.code d.at_ d.qual).ok K) && (xL K).all id)) = true from congrArg (fun z : AlR => z.1) c)).1 f (List.mem_of_getElem? e)
theorem r_x (c : obsR K = valR w) (i : Nat) {b : Bool} (e : (xL K)[i]? = some b) : b = true :=
  List.all_eq_true.mp (ba (ba (show ((faL.all fun f => f.ok K) && ((fnL.all fun d => (Fa.code d.at_ d.qual).ok K) && (xL K).all id)) = true from congrArg (fun z : AlR => z.1) c)).2).2 b (List.mem_of_getElem? e)
theorem r_fn (c : obsR K = valR w) (i : Nat) {d : FnD} (e : fnL[i]? = some d) :
    ∃ oc od osl kV doc pm an cdv ct, K.lookup (fAd K d.at_) = some ⟨oc, od, .func (PySem.W.fnOf d.name d.qual d.params d.body d.scope .none kV doc pm an cdv ct), osl⟩ ∧ PySem.W.codeIn K cdv d.qual = true := by
  have c2 := (ba (ba (show ((faL.all fun f => f.ok K) && ((fnL.all fun d => (Fa.code d.at_ d.qual).ok K) && (xL K).all id)) = true from congrArg (fun z : AlR => z.1) c)).2).1
  have e1 : fnL.map (fun d => fnObs K d.at_) = fnL.map FnD.val := congrArg (fun z : AlR => z.2.1) c
  have e2 : (fnL.map fun d => fnObs K d.at_)[i]? = (fnL.map FnD.val)[i]? := by rw [e1]
  rw [List.getElem?_map, List.getElem?_map, e] at e2
  exact fn_ok (Option.some.inj e2) (List.all_eq_true.mp c2 d (List.mem_of_getElem? e))
theorem r_h (c : obsR K = valR w) (i : Nat) {x : Str} {l : List Int} (e : tabN[i]? = some x) (e2 : (hashesOf w)[i]? = some l) : (entsOf K x).map (·.hash) = l := by
  have e1 : (tabN.map fun x => (entsOf K x).map (·.hash)) = hashesOf w := congrArg (fun z : AlR => z.2.2) c
  have e3 : (tabN.map fun x => (entsOf K x).map (·.hash))[i]? = (hashesOf w)[i]? := by rw [e1]
  rw [List.getElem?_map, e, e2] at e3
  exact Option.some.inj e3
theorem srcs_of (X : K.In h) (G : h.Ns mainGlobals mg) (c : obsR K = valR w) : Srcs K mg := fun i d e => by
  have hk := r_x c 0 rfl
  have hd := List.all_eq_true.mp hk d (List.mem_of_getElem? e)
  obtain ⟨h1, h2⟩ := ba hd
  have hf : fnL[i]? = some ⟨(d.1, none), d.2.1, d.2.1, defArgs d.2.2, defBody d.2.2, defScope d.2.2⟩ := by
    unfold fnL
    rw [List.getElem?_append_left (by rw [List.length_map]; exact (List.getElem?_eq_some_iff.mp e).1), List.getElem?_map, e]
    rfl
  obtain ⟨oc, od, osl, kV, doc, pm, an, cdv, ct, l, cd⟩ := r_fn c i hf
  exact ⟨ga K d.1, _, glo_ok X G h1, fun_mk (st := d.2.2) l cd (keep_ok h2)⟩
theorem fnB_ok (X : K.In h) (G : h.Ns mainGlobals mg) {y : Str} {u : Value} (z : fnB K y u = true) : mg y = some u ∧ ∃ f, u = .ref f := by
  cases u with
  | ref a => exact ⟨PySem.W.mg_of X G (eqO_ok z), a, rfl⟩
  | _ => cases z
theorem tupCB_ok (X : K.In h) (G : h.Ns mainGlobals mg) {x : Str} {bs : List Bytes} (z : tupCB K x (bs.map S) = true) : TupC K mg x bs := by
  unfold tupCB at z
  split at z
  · rename_i u e
    have t := tup_ok z
    rw [List.map_map] at t
    exact ⟨u, PySem.W.mg_of X G e, t⟩
  · cases z
theorem paired_map {α β γ : Type} {R : α → β → Prop} {g : γ → β} : ∀ {l : List α} {m : List γ}, Paired R l (m.map g) → Paired (fun a c => R a (g c)) l m
  | [], [], _ => .nil
  | [], _ :: _, h => by cases h
  | _ :: _, [], h => by cases h
  | a :: l, c :: m, h => by
    cases h with
    | cons h1 h2 => exact .cons h1 (paired_map h2)
theorem paired_to {α β γ : Type} {R : α → β → Prop} {g : γ → β} : ∀ {l : List α} {m : List γ}, Paired (fun a c => R a (g c)) l m → Paired R l (m.map g)
  | _, _, .nil => .nil
  | _, _, .cons h1 h2 => .cons h1 (paired_to h2)
theorem num_tab {d : Addr} {ps : List (Bytes × Int)} (t : KTab K w d (fun n u => L2.RelV (.int n) u) (ps.map fun p => (S p.1, p.2))) : KTab K w d L2.RelV (ps.map fun p => (S p.1, V.int p.2)) := by
  obtain ⟨es, n, h1, h2, h3⟩ := t
  exact ⟨es, n, h1, h2, paired_to (Paired.mapP (paired_map h3) fun e p q => q)⟩
theorem tup_tab {d : Addr} {ps : List (Bytes × List Bytes)} (t : KTab K w d (fun ks u => KTup K (ks.map V.str) u) (ps.map fun p => (S p.1, p.2.map S))) : KTab K w d (fun ks u => KTup K (ks.map fun b => V.str (S b)) u) (ps.map fun p => (S p.1, p.2)) := by
  obtain ⟨es, n, h1, h2, h3⟩ := t
  refine ⟨es, n, h1, h2, paired_to (Paired.mapP (paired_map h3) fun e p q => ⟨q.1, q.2.1, ?_⟩)⟩
  have z : KTup K ((p.2.map S).map V.str) e.val := q.2.2
  rw [List.map_map] at z
  exact z
theorem tops_of (X : K.In h) (G : h.Ns mainGlobals mg) (c : obsR K = valR w) : Tops K w mg where
  n_len := free_ok X G (r_fa c 0 rfl)
  n_int := free_ok X G (r_fa c 1 rfl)
  n_isinstance := free_ok X G (r_fa c 2 rfl)
  n_str := free_ok X G (r_fa c 3 rfl)
  n_ord := free_ok X G (r_fa c 4 rfl)
  n_zip := free_ok X G (r_fa c 5 rfl)
  n_enumerate := free_ok X G (r_fa c 6 rfl)
  n_bool := free_ok X G (r_fa c 7 rfl)
  n_min := free_ok X G (r_fa c 8 rfl)
  n_abs := free_ok X G (r_fa c 9 rfl)
  n_range := free_ok X G (r_fa c 10 rfl)
  n_reversed := free_ok X G (r_fa c 11 rfl)
  n_list := free_ok X G (r_fa c 12 rfl)
  n_any := free_ok X G (r_fa c 13 rfl)
  cL := let ⟨t, e⟩ := str_ok X G (r_fa c 14 rfl); ⟨_, e, t, rfl⟩
  cD := let ⟨t, e⟩ := str_ok X G (r_fa c 15 rfl); ⟨_, e, t, rfl⟩
  cM := let ⟨t, e⟩ := str_ok X G (r_fa c 16 rfl); ⟨_, e, t, rfl⟩
  cB := let ⟨t, e⟩ := str_ok X G (r_fa c 17 rfl); ⟨_, e, t, rfl⟩
  cO := let ⟨t, e⟩ := str_ok X G (r_fa c 18 rfl); ⟨_, e, t, rfl⟩
  cU := let ⟨t, e⟩ := str_ok X G (r_fa c 19 rfl); ⟨_, e, t, rfl⟩
  iR := let ⟨t, e⟩ := int_ok X G (r_fa c 20 rfl); ⟨_, e, t, rfl⟩
  iW := let ⟨t, e⟩ := int_ok X G (r_fa c 21 rfl); ⟨_, e, t, rfl⟩
  iB := let ⟨t, e⟩ := int_ok X G (r_fa c 22 rfl); ⟨_, e, t, rfl⟩
  iT := let ⟨t, e⟩ := int_ok X G (r_fa c 23 rfl); ⟨_, e, t, rfl⟩
  iD := let ⟨t, e⟩ := int_ok X G (r_fa c 24 rfl); ⟨_, e, t, rfl⟩
  iI := let ⟨t, e⟩ := int_ok X G (r_fa c 25 rfl); ⟨_, e, t, rfl⟩
  iX := let ⟨t, e⟩ := int_ok X G (r_fa c 26 rfl); ⟨_, e, t, rfl⟩
  iS := let ⟨t, e⟩ := int_ok X G (r_fa c 27 rfl); ⟨_, e, t, rfl⟩
  iC := let ⟨t, e⟩ := int_ok X G (r_fa c 28 rfl); ⟨_, e, t, rfl⟩
  tC := ⟨ga K "CONSTANTS", glo_ok X G (r_x c 17 rfl), num_tab (tab_ok (fun b u z => intB_ok z) (r_x c 18 rfl) (r_x c 31 rfl) (r_h c 0 rfl rfl))⟩
  tS := ⟨ga K "SIZES", glo_ok X G (r_x c 19 rfl), num_tab (tab_ok (fun b u z => intB_ok z) (r_x c 20 rfl) (r_x c 32 rfl) (r_h c 1 rfl rfl))⟩
  tK := ⟨ga K "KINDS", glo_ok X G (r_x c 21 rfl), tup_tab (tab_ok (fun b u z => tup_ok z) (r_x c 22 rfl) (r_x c 33 rfl) (r_h c 2 rfl rfl))⟩
  tF := ⟨ga K "FORMS", glo_ok X G (r_x c 23 rfl), tup_tab (tab_ok (fun b u z => tup_ok z) (r_x c 24 rfl) (r_x c 34 rfl) (r_h c 3 rfl rfl))⟩
  tA := ⟨ga K "ACTIONS", glo_ok X G (r_x c 25 rfl), tab_ok (fun b u z => fnB_ok X G z) (r_x c 26 rfl) (r_x c 35 rfl) (r_h c 4 rfl rfl)⟩
  tB := ⟨ga K "BIT_OPERATIONS", glo_ok X G (r_x c 27 rfl), tab_ok (fun b u z => fnB_ok X G z) (r_x c 28 rfl) (r_x c 36 rfl) (r_h c 5 rfl rfl)⟩
  tW := ⟨ga K "WORD_OPERATIONS", glo_ok X G (r_x c 29 rfl), tab_ok (fun b u z => fnB_ok X G z) (r_x c 30 rfl) (r_x c 37 rfl) (r_h c 6 rfl rfl)⟩
  pO := tupCB_ok X G (r_x c 38 rfl)
  pJ := tupCB_ok X G (r_x c 39 rfl)
  pN := tupCB_ok X G (r_x c 40 rfl)
theorem kw_ok {p : Str × Option Str} {oc : Value} {od : Option Addr} {osl : Array (Option Value)} {name qual : Str} {params : Arguments} {body : List Stmt} {scope : Scope} {kV doc pm cdv ct : Value} {an : Option Addr} (q : kwB K p = true) (l : K.lookup (fAd K p) = some ⟨oc, od, .func (PySem.W.fnOf name qual params body scope .none kV doc pm an cdv ct), osl⟩) : kV = .none := by
  unfold kwB at q
  rw [l] at q
  exact of_decide_eq_true q
theorem cls_at {C g : Addr} {x : Str} (q : (match PySem.W.findCls K (.ref C) (.type "type") x with | some (.val (.ref a)) => decide (a = g) | _ => false) = true) : PySem.W.findCls K (.ref C) (.type "type") x = some (.val (.ref g)) := by
  split at q
  · rename_i a e
    rw [e, of_decide_eq_true q]
  · cases q
theorem exc_two {C B : Addr} (cl : ∃ nm qn N bs sn sub ab col dd k0 k1 k2 k3 k5, K.lookup C = some (excClassObj nm qn C N bs (.ref B :: PySem.NapX.exTail) true sn sub ab col dd k0 k1 k2 k3 k5 "Exception.__new__")) (sa : PySem.W.findIn K (.ref C) "__setattr__" = some (some (.builtin "object.__setattr__")))
    (ga_ : PySem.W.findIn K (.ref C) "__getattribute__" = some (some (.builtin "BaseException.__getattribute__"))) (gg : PySem.W.findIn K (.ref C) "__getattr__" = some none) (b : PySem.W.subIn K (.ref C) (.type "BaseException") = some true) (y : PySem.W.typeIn K (.ref C) = some (.type "type")) (k : PySem.W.keepIn K (.ref C) = true) (hd : PySem.W.hasDictIn K C = true) : ExC K C := by
  obtain ⟨nm, qn, N, bs, sn, sub, ab, col, dd, k0, k1, k2, k3, k5, l⟩ := cl
  exact ⟨⟨nm, qn, N, bs, _, sn, sub, ab, col, dd, k0, k1, k2, k3, k5, l, PySem.NapX.mro_two C B, fun Y => by rw [List.contains_cons]; rfl⟩, sa, ga_, gg, b, y, k, hd⟩
theorem clss_of (X : K.In h) (G : h.Ns mainGlobals mg) (c : obsR K = valR w) : Clss K mg where
  un := by
    obtain ⟨c1, c2⟩ := ba (r_x c 1 rfl)
    obtain ⟨c2, c3⟩ := ba c2
    exact ⟨ga K "Unreadable", glo_ok X G (r_fa c 75 rfl), c1, keep_ok (r_fa c 76 rfl), of_decide_eq_true c2, of_decide_eq_true c3, exm_ok (r_fa c 98 rfl)⟩
  nap := by
    obtain ⟨oc, od, osl, kV, doc, pm, an, cdv, ct, l, cd⟩ := r_fn c 96 rfl
    obtain ⟨x1, x2, x3, x4, x5, x6, x7⟩ := exmB_ok (r_x c 3 rfl)
    have kw := r_x c 15 rfl
    have kw := kw_ok kw l
    subst kw
    exact ⟨ga K "NotAProgram", ma K (ga K "NotAProgram") "__init__", glo_ok X G (r_fa c 77 rfl), excB_ok (r_x c 9 rfl), x1, x2, x3, noat_ok (r_fa c 105 rfl), (meth_ok (r_fa c 91 rfl)).at_, x4, keep_ok (r_fa c 78 rfl), x5, x6, x7, exm_ok (r_fa c 99 rfl), ⟨_, _, _, _, _, _, _, _, _, _, _, _, _, _, l, cd⟩⟩
  ln := by
    obtain ⟨oc, od, osl, kV, doc, pm, an, cdv, ct, l, cd⟩ := r_fn c 91 rfl
    have mk := mkr_ok (r_fa c 31 rfl)
    exact ⟨ga K "Line", ma K (ga K "Line") "__init__", _, glo_ok X G (r_fa c 29 rfl), cls_ok (r_fa c 30 rfl), noat_ok (r_fa c 33 rfl), noat_ok (r_fa c 34 rfl), noat_ok (r_fa c 35 rfl), noat_ok (r_fa c 36 rfl), mk, fun_mk (st := s_line_init) l cd (meth_ok (r_fa c 32 rfl)).kp⟩
  cnt := by
    obtain ⟨oc, od, osl, kV, doc, pm, an, cdv, ct, l, cd⟩ := r_fn c 92 rfl
    have mk := mkr_ok (r_fa c 39 rfl)
    exact ⟨ga K "Counter", ma K (ga K "Counter") "__init__", _, glo_ok X G (r_fa c 37 rfl), cls_ok (r_fa c 38 rfl), noat_ok (r_fa c 41 rfl), noat_ok (r_fa c 42 rfl), noat_ok (r_fa c 43 rfl), mk, fun_mk (st := s_counter_init) l cd (meth_ok (r_fa c 40 rfl)).kp⟩
  tim := by
    obtain ⟨oc, od, osl, kV, doc, pm, an, cdv, ct, l, cd⟩ := r_fn c 93 rfl
    have mk := mkr_ok (r_fa c 46 rfl)
    exact ⟨ga K "Timer", ma K (ga K "Timer") "__init__", _, glo_ok X G (r_fa c 44 rfl), cls_ok (r_fa c 45 rfl), noat_ok (r_fa c 48 rfl), noat_ok (r_fa c 49 rfl), noat_ok (r_fa c 50 rfl), noat_ok (r_fa c 51 rfl), noat_ok (r_fa c 52 rfl), mk, fun_mk (st := s_timer_init) l cd (meth_ok (r_fa c 47 rfl)).kp⟩
  mach := by
    obtain ⟨oc, od, osl, kV, doc, pm, an, cdv, ct, l, cd⟩ := r_fn c 94 rfl
    have mk := mkr_ok (r_fa c 55 rfl)
    exact ⟨ga K "Machine", ma K (ga K "Machine") "__init__", _, glo_ok X G (r_fa c 53 rfl), cls_ok (r_fa c 54 rfl), noat_ok (r_fa c 57 rfl), noat_ok (r_fa c 58 rfl), noat_ok (r_fa c 59 rfl), noat_ok (r_fa c 60 rfl), noat_ok (r_fa c 61 rfl), noat_ok (r_fa c 62 rfl), noat_ok (r_fa c 63 rfl), mk, fun_mk (st := s_machine_init) l cd (meth_ok (r_fa c 56 rfl)).kp⟩
  step := by
    obtain ⟨oc, od, osl, kV, doc, pm, an, cdv, ct, l, cd⟩ := r_fn c 95 rfl
    have mk := mkr_ok (r_fa c 66 rfl)
    exact ⟨ga K "Step", ma K (ga K "Step") "__init__", _, glo_ok X G (r_fa c 64 rfl), cls_ok (r_fa c 65 rfl), noat_ok (r_fa c 68 rfl), noat_ok (r_fa c 69 rfl), noat_ok (r_fa c 70 rfl), noat_ok (r_fa c 71 rfl), noat_ok (r_fa c 72 rfl), noat_ok (r_fa c 73 rfl), noat_ok (r_fa c 74 rfl), mk, fun_mk (st := s_step_init) l cd (meth_ok (r_fa c 67 rfl)).kp⟩
  fau := by
    refine ⟨ga K "Fault", fun n => match n with | 1 => ga K "WrongKind" | 2 => ga K "WordOutOfRange" | 3 => ga K "DivisorZero" | _ => ga K "ScanTooLong", ?_, ?_, ?_, ?_, ?_⟩
    · obtain ⟨oc, od, osl, kV, doc, pm, an, cdv, ct, l, cd⟩ := r_fn c 97 rfl
      obtain ⟨c1, c2⟩ := ba (r_x c 2 rfl)
      obtain ⟨c2, c3⟩ := ba c2
      have m := meth_ok (r_fa c 92 rfl)
      exact ⟨ma K (ga K "Fault") "__init__", _, glo_ok X G (r_fa c 79 rfl), c1, eqO_ok c2, cls_at c3, m.kp, fun_mk (st := s_fault_init) l cd m.kp⟩
    · obtain ⟨oc, od, osl, kV, doc, pm, an, cdv, ct, l, cd⟩ := r_fn c 98 rfl
      obtain ⟨x1, x2, x3, x4, x5, x6, x7⟩ := exmB_ok (r_x c 4 rfl)
      have m := meth_ok (r_fa c 93 rfl)
      exact ⟨ma K (ga K "WrongKind") "__init__", _, exc_two (excB_ok (r_x c 11 rfl)) x1 x2 x3 x5 x6 (keep_ok (r_fa c 82 rfl)) x7, glo_ok X G (r_fa c 81 rfl), noat_ok (r_fa c 108 rfl), m.at_, x4, fun_mk (st := s_wrongkind_init) l cd m.kp, exm_ok (r_fa c 101 rfl)⟩
    · obtain ⟨oc, od, osl, kV, doc, pm, an, cdv, ct, l, cd⟩ := r_fn c 99 rfl
      obtain ⟨x1, x2, x3, x4, x5, x6, x7⟩ := exmB_ok (r_x c 5 rfl)
      have m := meth_ok (r_fa c 94 rfl)
      exact ⟨ma K (ga K "WordOutOfRange") "__init__", _, exc_two (excB_ok (r_x c 12 rfl)) x1 x2 x3 x5 x6 (keep_ok (r_fa c 84 rfl)) x7, glo_ok X G (r_fa c 83 rfl), noat_ok (r_fa c 109 rfl), m.at_, x4, fun_mk (st := s_wordoutofrange_init) l cd m.kp, exm_ok (r_fa c 102 rfl)⟩
    · obtain ⟨oc, od, osl, kV, doc, pm, an, cdv, ct, l, cd⟩ := r_fn c 100 rfl
      obtain ⟨x1, x2, x3, x4, x5, x6, x7⟩ := exmB_ok (r_x c 6 rfl)
      have m := meth_ok (r_fa c 95 rfl)
      exact ⟨ma K (ga K "DivisorZero") "__init__", _, exc_two (excB_ok (r_x c 13 rfl)) x1 x2 x3 x5 x6 (keep_ok (r_fa c 86 rfl)) x7, glo_ok X G (r_fa c 85 rfl), noat_ok (r_fa c 110 rfl), m.at_, x4, fun_mk (st := s_divisorzero_init) l cd m.kp, exm_ok (r_fa c 103 rfl)⟩
    · obtain ⟨oc, od, osl, kV, doc, pm, an, cdv, ct, l, cd⟩ := r_fn c 101 rfl
      obtain ⟨x1, x2, x3, x4, x5, x6, x7⟩ := exmB_ok (r_x c 7 rfl)
      have m := meth_ok (r_fa c 96 rfl)
      exact ⟨ma K (ga K "ScanTooLong") "__init__", _, exc_two (excB_ok (r_x c 14 rfl)) x1 x2 x3 x5 x6 (keep_ok (r_fa c 88 rfl)) x7, glo_ok X G (r_fa c 87 rfl), noat_ok (r_fa c 111 rfl), m.at_, x4, fun_mk (st := s_scantoolong_init) l cd m.kp, exm_ok (r_fa c 104 rfl)⟩
  stp := by
    obtain ⟨oc, od, osl, kV, doc, pm, an, cdv, ct, l, cd⟩ := r_fn c 102 rfl
    obtain ⟨x1, x2, x3, x4, x5, x6, x7⟩ := exmB_ok (r_x c 8 rfl)
    have kw := r_x c 16 rfl
    have kw := kw_ok kw l
    subst kw
    have te := exm_ok (r_fa c 100 rfl)
    exact ⟨ga K "Stopped", ma K (ga K "Stopped") "__init__", ⟨glo_ok X G (r_fa c 89 rfl), excB_ok (r_x c 10 rfl), x1, x2, x3, noat_ok (r_fa c 106 rfl), noat_ok (r_fa c 107 rfl), (meth_ok (r_fa c 97 rfl)).at_, x4, keep_ok (r_fa c 90 rfl), x5, x6, x7, te, ⟨_, _, _, _, _, _, _, _, _, _, _, _, _, _, _, _, _, _, _, l, cd⟩⟩, te⟩
end
end Sl
set_option Elab.async false
set_option linter.all false
set_option maxRecDepth 100000
set_option maxHeartbeats 4000000
namespace Sl
open PySem PySem.Spec PyProof.Rows L2 SlM
open PySem.W (OpenSpec Codec WData)
theorem walk_specE {r : OpenSpec} {k : Nat} {q : Program} {loose : List Str} {XP : (Str → Option Value) → Heap → Prop} {YP : World → Heap → Prop} {d : DefRec} {ps : List Str} {sp : PySem.W.Frag → Sp}
    (hwell : r.wellSaid = true) (hlen : r.args.length = ps.length) (hr : Room k callerA)
    (F : ∀ (w : World) (mg : Str → Option Value) (fa : Addr) (h : Heap), YP w h → h.Ns mainGlobals mg → mg d.name = some (.ref fa) →
      ∃ K : PySem.W.Frag, K.In h ∧ ∃ fd : FuncData, (∀ (s : Shared) (us : List Value), us.length = ps.length → BindsTo s fd ⟨us, []⟩ (ps.zip us)) ∧ ∀ base : Heap, FnOk r.prog w K mg base CX0 k fa fd ps (sp K))
    (hsp : ∀ (K : PySem.W.Frag) (H : Hp) (xs : List V) (a : Codec.denoteAll r.args), OnlyF H → Codec.withinAll r.args a = true → Codec.app r.args r.asked a = true → DwAll K H xs (Codec.encAll r.args a) →
      sp K xs H (fun v H' => Dw K H' v (r.ret.enc (Codec.app r.args r.f a))) fun _ _ _ => False) :
    PySem.W.WalkOS q loose XP YP r d [] (fun f vs => PySem.call f vs) := by
  intro w s₀ s₁ mg mb G Y fa _ _ _ _ _ _ _ _ _ _ named gens args vals _ pre lay _ well _
  obtain ⟨a, decoded, asked⟩ := PySem.W.os_pre_some pre
  obtain ⟨rfl, within⟩ := Codec.encAll_of_decAll r.args args a decoded
  obtain ⟨K, inK, fd, binds, promise⟩ := F w mg fa _ Y G.T.g named
  have called := spec_call (R := []) (cl := classAt s₀.heap) (d0 := r.ret.enc (Codec.app r.args r.f a)) inK G.T.g G.T.b G.T.builtins G.T.nolimit gens well (pl_encAll _ _) (layable_weight lay) hr (fun base _ _ => promise base) binds ((encAll_len ..).trans hlen)
    (fun H xs only dw => hsp K H xs a only within asked dw) fun _ _ _ z => z
  refine PySem.W.enter_call (codeAny_mono called ?_)
  rintro _ s' ⟨u, as', rfl, reads, old, sameOs, bare⟩
  exact ⟨.inl ⟨u, _, as', rfl, fun _ => rfl, reads, (OpenSpec.post_iff hwell within _ _).mpr rfl, nofun⟩, old, sameOs, bare⟩
theorem in_int {lo hi n : Int} (h : PySem.W.Codec.inInt lo hi n = true) : lo ≤ n ∧ n ≤ hi := by
  unfold PySem.W.Codec.inInt at h
  simpa using h
theorem asked_len {t i m w : List Int} (h : PySf47.run_asked t i m w = true) (hi : i.length ≤ 65536) : m.length = i.length := by
  unfold PySf47.run_asked Sf47Neutral.asked at h
  rw [Bool.and_eq_true, Bool.and_eq_true, List.all_cons, Bool.and_eq_true] at h
  have h1 : (Sf47Neutral.whole32 (t.length : Int) && Sf47Neutral.whole32 (i.length : Int) && (t.all (fun (z : Int) => Sf47Neutral.natural z 8) && Sf47Neutral.long t t.length 0 65536) && (i.all (fun (z : Int) => Sf47Neutral.natural z 64) && Sf47Neutral.long i i.length 0 65536) && (m.all (fun (z : Int) => Sf47Neutral.natural z 64) && Sf47Neutral.long m i.length 0 65536) && (w.all Sf47Neutral.whole32 && Sf47Neutral.long w 256 256 256)) = true := h.1.2.1
  simp only [Bool.and_eq_true] at h1
  have h2 : Sf47Neutral.long m i.length 0 65536 = true := h1.1.2.2
  unfold Sf47Neutral.long at h2
  have h3 := of_decide_eq_true h2
  rw [if_pos ⟨by omega, by omega⟩] at h3
  omega
theorem ints_of {l : List Int} (h : ∀ z ∈ l, 0 ≤ z) : Sf47Neutral.ints (l.map Int.toNat) = l := by
  unfold Sf47Neutral.ints
  rw [List.map_map]
  conv => rhs; rw [← List.map_id l]
  exact List.map_congr_left fun z hz => Int.toNat_of_nonneg (h z hz)
theorem natV_of {l : List Int} (h : ∀ z ∈ l, 0 ≤ z) : natV (l.map Int.toNat) = l.map V.int := by rw [natV_ints, ints_of h]
theorem spec_run {K : PySem.W.Frag} {H : Hp} {xs : List V} {t i m w : List Int} {Q : VK} {E : XK} (ht : Codec.inList 0 65536 (Codec.inInt 0 255) t = true) (hi : Codec.inList 0 16000 (Codec.inInt 0 18446744073709551615) i = true) (hm : Codec.inList 0 16000 (Codec.inInt 0 18446744073709551615) m = true) (hw : Codec.inList 256 256 (Codec.inInt (-2147483648) 2147483647) w = true)
    (ha : PySf47.run_asked t i m w = true) (hx : DwAll K H xs [.list (t.map WData.int), .list (i.map WData.int), .list (m.map WData.int), .list (w.map WData.int)]) (q : ∀ H' p, H' p = some (.lst ((PySf47.run t i m w).map V.int)) → Q (.ref p) H') : spRunC K xs H Q E := by
  cases hx with
  | cons x1 hx => cases hx with
    | cons x2 hx => cases hx with
      | cons x3 hx => cases hx with
        | cons x4 hx =>
          cases hx
          cases x1 with
          | lst s1 d1 => cases x2 with
            | lst s2 d2 => cases x3 with
              | lst s3 d3 => cases x4 with
                | lst s4 d4 =>
                  have e1 := ints_dw _ _ d1
                  have e2 := ints_dw _ _ d2
                  have e3 := ints_dw _ _ d3
                  have e4 := ints_dw _ _ d4
                  subst e1 e2 e3 e4
                  have ht' : (Codec.inLen 0 65536 t && t.all (Codec.inInt 0 255)) = true := ht
                  have hi' : (Codec.inLen 0 16000 i && i.all (Codec.inInt 0 18446744073709551615)) = true := hi
                  have hm' : (Codec.inLen 0 16000 m && m.all (Codec.inInt 0 18446744073709551615)) = true := hm
                  have hw' : (Codec.inLen 256 256 w && w.all (Codec.inInt (-2147483648) 2147483647)) = true := hw
                  rw [Bool.and_eq_true] at ht' hi' hm' hw'
                  have l1 := (Codec.inNat_iff.mp ht'.1).2
                  have l2 := (Codec.inNat_iff.mp hi'.1).2
                  have l4 := Codec.inNat_iff.mp hw'.1
                  have n2 : ∀ z ∈ i, 0 ≤ z := fun z hz => (in_int (List.all_eq_true.mp hi'.2 z hz)).1
                  have n3 : ∀ z ∈ m, 0 ≤ z := fun z hz => (in_int (List.all_eq_true.mp hm'.2 z hz)).1
                  have le : m.length = i.length := asked_len ha (by omega)
                  refine ⟨_, _, _, _, t, i.map Int.toNat, m.map Int.toNat, w, rfl, s1, l1, fun n hn => in_int (List.all_eq_true.mp ht'.2 n hn), by rw [natV_of n2]; exact s2, by rw [natV_of n3]; exact s3, by rw [List.length_map, List.length_map]; exact le, by rw [List.length_map]; omega, s4, by omega, fun z hz => ?_, ?_⟩
                  · have := in_int (List.all_eq_true.mp hw'.2 z hz)
                    exact SlM.fits_iff.mpr (by omega)
                  · rw [ints_of n2, ints_of n3]
                    exact q
end Sl
set_option Elab.async false
set_option linter.all false
set_option maxRecDepth 100000
set_option maxHeartbeats 4000000
namespace Sl
open PySem PySem.Spec PyProof.Rows L2 SlM
open PySem.W (OpenSpec Codec WData)
theorem app_gen {β : Type} (g : List Int → List Int → List Int → List Int → β) (a : Codec.denoteAll PySem.Challenge.fa_scanlist_s02_run) : Codec.app PySem.Challenge.fa_scanlist_s02_run g a = g a.1 a.2.1 a.2.2.1 a.2.2.2.1 := rfl
theorem app_of (p : Program) (n : PySem.Str) (fr : Codec) (ask : List Int → List Int → List Int → List Int → Bool) (f : List Int → List Int → List Int → List Int → List Int) (a : Codec.denoteAll PySem.Challenge.fa_scanlist_s02_run) :
    Codec.app (OpenSpec.mk p n PySem.Challenge.fa_scanlist_s02_run PySem.Challenge.fr_scanlist_s02_run ask f).args (OpenSpec.mk p n PySem.Challenge.fa_scanlist_s02_run PySem.Challenge.fr_scanlist_s02_run ask f).asked a = ask a.1 a.2.1 a.2.2.1 a.2.2.2.1 := rfl
theorem app_asked (a : Codec.denoteAll PySem.Challenge.fa_scanlist_s02_run) : Codec.app PySem.Challenge.rw_scanlist_s02_run.args PySem.Challenge.rw_scanlist_s02_run.asked a = PySf47.run_asked a.1 a.2.1 a.2.2.1 a.2.2.2.1 := by
  unfold PySem.Challenge.rw_scanlist_s02_run
  exact app_of _ _ PySem.Challenge.fr_scanlist_s02_run _ _ a
theorem app_f (a : Codec.denoteAll PySem.Challenge.fa_scanlist_s02_run) : Codec.app PySem.Challenge.rw_scanlist_s02_run.args PySem.Challenge.rw_scanlist_s02_run.f a = PySf47.run a.1 a.2.1 a.2.2.1 a.2.2.2.1 := app_gen PySf47.run a
theorem enc_gen (l : List Int) : PySem.Challenge.rw_scanlist_s02_run.ret.enc l = .list (l.map WData.int) := rfl
theorem app_enc (a : Codec.denoteAll PySem.Challenge.fa_scanlist_s02_run) : Codec.encAll PySem.Challenge.rw_scanlist_s02_run.args a = [.list (a.1.map WData.int), .list (a.2.1.map WData.int), .list (a.2.2.1.map WData.int), .list (a.2.2.2.1.map WData.int)] := rfl
theorem spec_all (K : PySem.W.Frag) (H : Hp) (xs : List V) (a : Codec.denoteAll PySem.Challenge.rw_scanlist_s02_run.args) (hwi : Codec.withinAll PySem.Challenge.rw_scanlist_s02_run.args a = true) (hask : Codec.app PySem.Challenge.rw_scanlist_s02_run.args PySem.Challenge.rw_scanlist_s02_run.asked a = true) (hx : DwAll K H xs (Codec.encAll PySem.Challenge.rw_scanlist_s02_run.args a)) :
    spRunC K xs H (fun v H' => Dw K H' v (PySem.Challenge.rw_scanlist_s02_run.ret.enc (Codec.app PySem.Challenge.rw_scanlist_s02_run.args PySem.Challenge.rw_scanlist_s02_run.f a))) fun _ _ _ => False := by
  have q : ((Codec.inList 0 65536 (Codec.inInt 0 255) a.1) && ((Codec.inList 0 16000 (Codec.inInt 0 18446744073709551615) a.2.1) && ((Codec.inList 0 16000 (Codec.inInt 0 18446744073709551615) a.2.2.1) && ((Codec.inList 256 256 (Codec.inInt (-2147483648) 2147483647) a.2.2.2.1) && true)))) = true := hwi
  rw [Bool.and_eq_true, Bool.and_eq_true, Bool.and_eq_true, Bool.and_eq_true] at q
  rw [app_asked a] at hask
  rw [app_enc a] at hx
  rw [app_f a, enc_gen]
  exact spec_run q.1 q.2.1 q.2.2.1 q.2.2.2.1 hask hx fun H' p hp => .lst (L2.SqL.of hp) (L2.dw_ints _)
end Sl
set_option Elab.async false
set_option linter.all false
set_option maxRecDepth 100000
namespace HeadRun
open PySem PySem.W PySem.Calls PyProof.Rows HandSHeadRun
theorem runA (w : World) : RunA w := byRow2 "special-get-raises" runA_f runA_t w
theorem runC (w : World) : RunC w := byRow2 "special-get-raises" runC_f runC_t w
theorem runD (w : World) : RunD w := byRow2 "special-get-raises" runD_f runD_t w
theorem runB (w : World) (os : OsState) : (endR w os).map obT = some (Sl.valR w) := by
  have c := runC w os
  have d := runD w os
  cases q : endR w os with
  | none =>
    rw [q] at c
    cases c
  | some s =>
    rw [q] at c d
    have c := Option.some.inj c
    have d := Option.some.inj d
    have e0 : (Sl.fnL.map fun d => He.fnObs (kT s) d.at_) = Sl.fnL.map He.FnD.val := congrArg (fun z : List He.FnV × Bool × List (List Int) => z.1) d
    have e1 : (Sl.xL (kT s)).all id = true := congrArg (fun z : List He.FnV × Bool × List (List Int) => z.2.1) d
    have e2 : (Sl.tabN.map fun x => (Sl.entsOf (kT s) x).map (·.hash)) = Sl.hashesOf w := congrArg (fun z : List He.FnV × Bool × List (List Int) => z.2.2) d
    have c1 : (Sl.faL.all fun f => f.ok (kT s)) = true := (Bool.and_eq_true_iff.mp c).1
    have c2 : (Sl.fnL.all fun d => (He.Fa.code d.at_ d.qual).ok (kT s)) = true := (Bool.and_eq_true_iff.mp c).2
    refine congrArg some (Prod.ext ?_ (Prod.ext e0 e2))
    show ((Sl.faL.all fun f => f.ok (kT s)) && ((Sl.fnL.all fun d => (He.Fa.code d.at_ d.qual).ok (kT s)) && (Sl.xL (kT s)).all id)) = true
    rw [c1, c2, e1]
    rfl
theorem run_both (w : World) (os : OsState) : (endF (stepT (denote treeTable) P w) 8300 P w os).map (fun s => (looksF P (boot_heap w.params) s.abs, openSeen qv names (importedModules P.main.body) (fun s => xlAt qv [] s && recOk [] s) true s.abs, Sl.hookR.obs s.abs)) = some (true, openGood qv names, Sl.hookR.val w) := by
  have a := runA w os
  have b := runB w os
  unfold endR at a b
  have ho : obT = fun s => Sl.hookR.obs s.abs := funext fun s => by
    have e : getT s = s.abs.heap.get? := funext (getT_eq s)
    unfold obT
    rw [e]
    rfl
  rw [ho] at b
  simp only [endQ_eq, seenQ_eq]
  cases q : endF (stepQ (denQ tabQ) P w) 8300 P w os with
  | none =>
    rw [q] at a
    cases a
  | some s =>
    rw [q] at a b
    have a := Option.some.inj a
    have b := Option.some.inj b
    have a1 := congrArg Prod.fst a
    have a2 := congrArg Prod.snd a
    exact congrArg some (Prod.ext a1 (Prod.ext a2 b))
theorem left : LeftO P qv names (fun s => xlAt qv [] s && recOk [] s) Sl.hookR.obs Sl.hookR.val 8900 true :=
  left_one (M := 8300) (by kernel_rfl) rfl (fun s => by kernel_rfl) rfl run_both
end HeadRun
open PySem PySem.W PySem.Calls PyProof.Rows
set_option maxHeartbeats 8000000 in
theorem PySem.Challenge.cw_scanlist_s02_run_holds : PySem.Challenge.rw_scanlist_s02_run.Holds := by
  w_on
  refine holds_os (r := PySem.Challenge.rw_scanlist_s02_run) (q := HeadRun.qv) (loose := HeadRun.names) (XP := XL HeadRun.qv []) (YP := Sl.hookR.says) (kwd := []) HeadRun.left Sl.hookR.of Sl.hookR.keeps
    (fun s z => xl_of s (Bool.and_eq_true_iff.mp z).1) XL.keeps (by rfl) (by rfl) (by rfl) (fun s z => recFacts_of (Bool.and_eq_true_iff.mp z).2) os_shapes HeadRun.well_said HeadRun.chains_ok HeadRun.prog_bare ?hw ?hc
  case hw => exact ⟨[.list [], .list [], .list [], .list (List.replicate 256 (.int 0))], by decide +kernel, by decide +kernel⟩
  case hc =>
    refine Sl.walk_specE (k := 12) (ps := ["text", "inputs", "times", "words"]) (sp := Sl.spRunC) HeadRun.well_said rfl ⟨rfl, by decide, by decide⟩ ?F ?S
    case F =>
      intro w mg fa h Y G hmg
      obtain ⟨K, KX, c⟩ := Y
      exact ⟨K, KX, Sl.run_all hmg (Sl.clss_of KX G c) (Sl.tops_of KX G c) (Sl.srcs_of KX G c)⟩
    case S =>
      intro K H xs a hO hwi hask hx
      exact Sl.spec_all K H xs a hwi hask hx
