"""What each instruction does with the result, with a bit and with a word, and where it's an error."""

import unittest

from helper import GREATEST, LEAST, RunCase, words_with
from test_instructions import BIT_OPERATIONS, TIMERS, WORD_OPERATIONS

TABLES = {
    "AND": (0, 0, 0, 1),
    "OR": (0, 1, 1, 1),
    "XOR": (0, 1, 1, 0),
    "ANDN": (0, 0, 1, 0),
    "ORN": (1, 0, 1, 1),
    "XORN": (1, 0, 0, 1),
}
PAIRS = ((0, 0), (0, 1), (1, 0), (1, 1))
NAMES = ("FALSE", "TRUE")

# Every one that wants the result to be a bit, but the operations.
OF_BITS = ["ST Q0", "ST M0", "STN Q0", "STN M0", "S Q0", "S M0", "R Q0", "R M0", "NOT", "JMPC a", "JMPCN a", "RETC"]
OF_BITS += [f"{name} T0 5" for name in TIMERS] + ["CTU C0 5", "RC C0", "UP M0", "DOWN M0"]

# What sets a bit of each kind to 1, behind LD TRUE.
BITS_SET = (("Q7", "ST Q7"), ("M255", "ST M255"), ("T31", "TON T31 0"), ("C31", "CTU C31 1"))


class Loading(RunCase):
    def test_bits(self):
        for name, setting in BITS_SET:
            for value in (0, 1):
                text = f"LD {NAMES[value]}\n{setting}\n"
                self.assert_bit(value, text + f"LD FALSE\nLD {name}")
                self.assert_bit(1 - value, text + f"LD TRUE\nLDN {name}")
        for value in (0, 1):
            self.assert_bit(value, f"LD {NAMES[value]}")
            self.assert_bit(1 - value, f"LDN {NAMES[value]}")
            self.assert_bit(value, "LD I9", [value << 9])
            self.assert_bit(1 - value, "LDN I9", [value << 9])

    def test_words(self):
        for number in (0, 1, -1, LEAST, GREATEST, 12345):
            self.assert_word(number, f"LD {number}")
            self.assert_word(number, "LD W0", words={0: number})
            self.assert_word(number, "LD W254", words={254: number})
        self.assert_word(7, "LD 007")
        self.assert_word(0, "LD -0")
        self.assert_word(1, "LD TRUE\nCTU C31 5\nLD V31")
        self.assert_word(0, "LD E31")

    def test_a_result_is_replaced_whatever_it_was(self):
        self.assert_word(5, "LD TRUE\nLD 5")
        self.assert_bit(1, "LD 5\nLD TRUE")
        self.assert_bit(1, "LD 5\nLDN FALSE")

    def test_loading_changes_nothing(self):
        self.assert_outputs([5, 5], "LD TRUE\nST Q0\nLDN Q1\nST Q2\nLD Q0\nLDN Q0\nLD Q1\nLDN Q1\n", [0, 0])


class Storing(RunCase):
    def test_st_and_stn(self):
        for value in (0, 1):
            self.assert_outputs([value << 5], f"LD {NAMES[value]}\nST Q5\n")
            self.assert_outputs([(1 - value) << 5], f"LD {NAMES[value]}\nSTN Q5\n")
            self.assert_bit(value, f"LD {NAMES[value]}\nST M200\nLD M200")
            self.assert_bit(1 - value, f"LD {NAMES[value]}\nSTN M200\nLD M200")

    def test_they_overwrite_both_ways(self):
        self.assert_outputs([1, 0, 1, 0, 0], "LD I0\nST Q0\n", [1, 0, 1, 0, 0])
        self.assert_outputs([0, 1, 0, 1, 1], "LD I0\nSTN Q0\n", [1, 0, 1, 0, 0])

    def test_words(self):
        ran = self.assert_ends([0, 1, 0], "LD -7\nST W0\nST W255\nADD 1\nST W1\n", words={0: 1, 1: 2, 2: 3})
        self.assertEqual(words_with({0: -7, 1: -6, 2: 3, 255: -7}), ran.words)

    def test_the_result_stays(self):
        self.assert_outputs([15], "LD TRUE\nST Q0\nST Q1\nSTN Q5\nST Q2\nS Q4\nR Q4\nST Q3\n")
        self.assert_word(3, "LD 3\nST W0\nST W1")

    def test_s_and_r_only_where_the_result_is_1(self):
        for name in ("Q0", "M0"):
            text = f"LD I0\nS {name}\nLD I1\nR {name}\nLD {name}\nST Q0\n"
            self.assert_outputs([0, 1, 1, 0, 0, 0, 1, 0], text, [0, 1, 0, 2, 0, 3, 1, 2])
            text = f"LD TRUE\nST {name}\nLD I0\nR {name}\nLD {name}"
            self.assert_bit(1, text, [0])
            self.assert_bit(0, text, [1])

    def test_a_stored_kind_must_fit(self):
        self.assert_error(1, 2, "LD 1\nST Q0\n")
        self.assert_error(1, 2, "LD 0\nST M0\n")
        self.assert_error(1, 2, "LD TRUE\nST W0\n", {0: 9})
        self.assert_error(1, 2, "LD FALSE\nST W0\n", {0: 9})
        self.assert_error(1, 1, "ST W0\n", {0: 9})


class OfBits(RunCase):
    def test_not(self):
        self.assert_bit(1, "LD FALSE\nNOT")
        self.assert_bit(0, "LD TRUE\nNOT")
        self.assert_bit(1, "LD TRUE\nNOT\nNOT")

    def test_operations(self):
        for name, table in TABLES.items():
            for (left, right), expected in zip(PAIRS, table):
                self.assert_bit(expected, f"LD {NAMES[left]}\n{name} {NAMES[right]}")
                self.assert_bit(expected, f"LD I0\n{name} I63", [left + (right << 63)])
                self.assert_bit(expected, f"LD {NAMES[left]}\n{name} ( {NAMES[right]}\n)")
                for bit, setting in BITS_SET:
                    self.assert_bit(expected, f"LD {NAMES[right]}\n{setting}\nLD {NAMES[left]}\n{name} {bit}")

    def test_an_operation_changes_no_operand(self):
        self.assert_outputs([1, 1], "LD TRUE\nST Q0\nXOR Q0\nXOR Q1\nANDN Q0\n", [0, 0])

    def test_nothing_is_an_error(self):
        for row in OF_BITS + [f"{name} TRUE" for name in BIT_OPERATIONS]:
            self.assert_error(1, 1, f"{row}\na:\n")
            self.assert_error(1, 3, f"\nJMP b\nb: {row}\na:\n")

    def test_a_word_is_an_error(self):
        for row in OF_BITS + [f"{name} TRUE" for name in BIT_OPERATIONS]:
            for word in ("1", "0", "-1", "W0", "E0", "V0"):
                self.assert_error(1, 2, f"LD {word}\n{row}\na:\n", {0: 1})

    def test_what_no_result_is_asked_for(self):
        for row in ("LD I0", "LD 5", "LDN I0", "JMP a", "RET"):
            self.assert_outputs([0], f"{row}\na:\n")
            self.assert_outputs([0], f"LD 5\n{row}\na:\n")
            self.assert_outputs([0], f"LD TRUE\n{row}\na:\n")


class OfWords(RunCase):
    def test_nothing_is_an_error(self):
        for name in WORD_OPERATIONS:
            for operand in ("1", "0", "W0"):
                self.assert_error(1, 1, f"{name} {operand}\n")

    # Also where the divisor is 0, or the sum would be too large.
    def test_a_bit_is_an_error(self):
        for name in WORD_OPERATIONS:
            for bit in ("TRUE", "FALSE", "I0", "T0", "C0"):
                for operand in ("1", "0", "W0", str(GREATEST), str(LEAST)):
                    self.assert_error(1, 2, f"LD {bit}\n{name} {operand}\n")

    def test_a_comparisons_result_is_a_bit(self):
        for name in ("GT", "GE", "EQ", "NE", "LE", "LT"):
            self.assert_error(1, 3, f"LD 5\n{name} 5\nADD 1\n")
            self.assert_error(1, 3, f"LD 5\n{name} 5\nST W0\n")
            self.assert_error(1, 3, f"LD 5\n{name} 5\n{name} 5\n")
            self.assert_ends([0, 1, 0], f"LD 5\n{name} 5\nNOT\n")

    def test_a_calculations_result_is_a_word(self):
        for name in ("ADD", "SUB", "MUL", "DIV", "MOD"):
            self.assert_error(1, 3, f"LD 5\n{name} 5\nNOT\n")
            self.assert_error(1, 3, f"LD 5\n{name} 5\nST Q0\n")
            self.assert_ends([0, 1, 0], f"LD 5\n{name} 5\nST W0\n")


class Edges(RunCase):
    def test_up(self):
        self.assert_outputs([0, 1, 0, 0, 0, 1, 0, 1], "LD I0\nUP M0\nST Q0\n", [0, 1, 1, 0, 0, 1, 0, 1])
        self.assert_outputs([1, 0], "LD I0\nUP M255\nST Q0\n", [1, 1])

    def test_down(self):
        self.assert_outputs([0, 0, 0, 1, 0, 0, 1, 0], "LD I0\nDOWN M0\nST Q0\n", [0, 1, 1, 0, 0, 1, 0, 1])
        self.assert_outputs([0, 1], "LD I0\nDOWN M255\nST Q0\n", [1, 0])

    def test_the_mark_gets_what_the_result_was(self):
        for name in ("UP", "DOWN"):
            text = f"LD I0\n{name} M3\nLD M3\nST Q0\n"
            self.assert_outputs([0, 1, 1, 0, 0, 1], text, [0, 1, 1, 0, 0, 1])

    def test_a_mark_that_is_stored_otherwise(self):
        self.assert_bit(0, "LD TRUE\nST M0\nLD TRUE\nUP M0")
        self.assert_bit(1, "LD TRUE\nST M0\nLD FALSE\nDOWN M0")
        self.assert_outputs([1, 1, 1], "LD TRUE\nUP M0\nST Q0\nLD FALSE\nST M0\n", [0, 0, 0])

    def test_several_of_one_mark(self):
        self.assert_outputs([1, 0], "LD I0\nUP M0\nST Q0\nLD I0\nUP M0\nST Q1\n", [1, 1])
        self.assert_outputs([3, 3], "LD TRUE\nUP M0\nST Q0\nLD FALSE\nDOWN M0\nST Q1\n", [0, 0])

    def test_marks_are_apart(self):
        self.assert_outputs([3], "LD TRUE\nUP M0\nST Q0\nLD TRUE\nUP M1\nST Q1\n")


if __name__ == "__main__":
    unittest.main()
