"""The instructions and what each may be done with."""

import unittest

from helper import CheckCase

SIZES = {"I": 64, "Q": 64, "M": 256, "T": 32, "C": 32, "W": 256, "E": 32, "V": 32}
BITS = ("I0", "Q0", "M0", "T0", "C0", "TRUE", "FALSE")
WORDS = ("W0", "E0", "V0", "5", "-5")
VALUES = BITS + WORDS
NEVER = ("x", "LD", "NOT", "I", "X0", "(", ")", ":", "I0 I0", "5 5")

BIT_OPERATIONS = ("AND", "OR", "XOR", "ANDN", "ORN", "XORN")
WORD_OPERATIONS = ("ADD", "SUB", "MUL", "DIV", "MOD", "GT", "GE", "EQ", "NE", "LE", "LT")
TIMERS = ("TON", "TOF", "TP")


class Names(CheckCase):
    def test_the_first_and_the_last_and_the_one_past(self):
        for letter, size in SIZES.items():
            self.assert_reads(f"LD {letter}0", f"LD {letter}1", f"LD {letter}{size - 1}")
            self.assert_unreadable(f"LD {letter}{size}", f"LD {letter}{size + 1}", f"LD {letter}{size}0")
            self.assert_unreadable(f"LD {letter}99999999999999")

    def test_every_one_of_them(self):
        for letter, size in SIZES.items():
            self.assert_program("\n".join(f"LD {letter}{number}" for number in range(size)))

    def test_no_zeros_before_a_number_in_them(self):
        for letter in SIZES:
            self.assert_unreadable(f"LD {letter}00", f"LD {letter}01", f"LD {letter}007", f"LD {letter}010")

    def test_what_is_none_of_them(self):
        for letter in SIZES:
            self.assert_unreadable(f"LD {letter}", f"LD {letter}_0", f"LD {letter}0_", f"LD {letter}-1")
            self.assert_unreadable(f"LD {letter} 0", f"LD {letter.lower()}0", f"LD {letter}{letter}0", f"LD {letter}0a")
        self.assert_unreadable("LD A0", "LD X0", "LD TRUE0", "LD FALSE1", "LD TRU", "LD _0", "LD 0I")

    def test_an_instructions_own_last_and_one_past(self):
        self.assert_reads("ST Q63", "ST M255", "ST W255", "S Q63", "R M255", "TON T31 0", "CTU C31 0", "RC C31")
        self.assert_reads("UP M255", "DOWN M255", "AND I63", "ADD V31", "GT E31")
        self.assert_unreadable("ST Q64", "ST M256", "ST W256", "S Q64", "R M256", "TON T32 0", "CTU C32 0", "RC C32")
        self.assert_unreadable("UP M256", "DOWN M256", "AND I64", "ADD V32", "GT E32", "UP M01", "TON T01 0", "RC C00")


class OneOperand(CheckCase):
    def assert_takes(self, names, operands):
        for name in names:
            self.assert_unreadable(name, *(f"{name} {operand}" for operand in NEVER if operand != ":"))
            for operand in VALUES:
                if operand in operands:
                    self.assert_reads(f"{name} {operand}")
                else:
                    self.assert_unreadable(f"{name} {operand}")
                self.assert_unreadable(f"{name} {operand} I0", f"{name} {operand} 5", f"{name} {operand} {operand}")

    def test_ld(self):
        self.assert_takes(("LD",), VALUES)

    def test_ldn(self):
        self.assert_takes(("LDN",), BITS)

    def test_st(self):
        self.assert_takes(("ST",), ("Q0", "M0", "W0"))

    def test_stn_s_r(self):
        self.assert_takes(("STN", "S", "R"), ("Q0", "M0"))

    def test_operations_on_bits(self):
        self.assert_takes(BIT_OPERATIONS, BITS)

    def test_operations_on_words(self):
        self.assert_takes(WORD_OPERATIONS, WORDS)

    def test_rc(self):
        self.assert_takes(("RC",), ("C0",))

    def test_up_and_down(self):
        self.assert_takes(("UP", "DOWN"), ("M0",))


class NoOperand(CheckCase):
    def test_not_ret_retc(self):
        for name in ("NOT", "RET", "RETC"):
            self.assert_reads(name)
            self.assert_unreadable(*(f"{name} {operand}" for operand in VALUES + NEVER if operand != ":"))


class TwoOperands(CheckCase):
    def test_timers(self):
        for name in TIMERS:
            self.assert_reads(f"{name} T0 0", f"{name} T31 2147483647", f"{name} T0 -0", f"{name} T0 0010")
            self.assert_unreadable(name, f"{name} T0", f"{name} 5", f"{name} 5 T0", f"{name} T0 -1", f"{name} T0 5 5")
            self.assert_unreadable(f"{name} T0 -2147483648", f"{name} T0 ( 5", f"{name} ( T0 5", f"{name} T0 x")
            for operand in VALUES:
                if operand != "T0":
                    self.assert_unreadable(f"{name} {operand} 5")
                if operand != "5":
                    self.assert_unreadable(f"{name} T0 {operand}")

    def test_ctu(self):
        self.assert_reads("CTU C0 0", "CTU C31 5", "CTU C0 -1", "CTU C0 -2147483648")
        self.assert_unreadable("CTU", "CTU C0", "CTU 5", "CTU 5 C0", "CTU C0 5 5", "CTU C0 ( 5", "CTU ( C0 5")
        for operand in VALUES:
            if operand != "C0":
                self.assert_unreadable(f"CTU {operand} 5")
            if operand not in ("5", "-5"):
                self.assert_unreadable(f"CTU C0 {operand}")


class Unknown(CheckCase):
    def test_what_is_no_instruction(self):
        self.assert_unreadable("x", "x I0", "I0", "TRUE", "5", "-5", "(", ":", "( I0", ": NOT", ":a", "LDX I0", "CAL I0")
        self.assert_unreadable("NOTN", "SN Q0", "RN Q0", "ADDN 5", "CTD C0 5", "RETCN", "LD_ I0", "CD C0", "S1 Q0")

    def test_several_instructions_in_a_line(self):
        self.assert_unreadable("NOT NOT", "LD I0 NOT", "NOT LD I0", "RET:RET:")


if __name__ == "__main__":
    unittest.main()
