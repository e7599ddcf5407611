"""Calculations and comparisons of words, and where they can't be done."""

import unittest

from helper import GREATEST, LEAST, RunCase

COMPARISONS = {
    "GT": (0, 0, 1),
    "GE": (0, 1, 1),
    "EQ": (0, 1, 0),
    "NE": (1, 0, 1),
    "LE": (1, 1, 0),
    "LT": (1, 0, 0),
}

# Result, operand, quotient, remainder.
DIVISIONS = (
    (7, 2, 3, 1),
    (-7, 2, -3, -1),
    (7, -2, -3, 1),
    (-7, -2, 3, -1),
    (6, 3, 2, 0),
    (-6, 3, -2, 0),
    (6, -3, -2, 0),
    (-6, -3, 2, 0),
    (1, 2, 0, 1),
    (-1, 2, 0, -1),
    (1, -2, 0, 1),
    (-1, -2, 0, -1),
    (0, 5, 0, 0),
    (0, -5, 0, 0),
    (LEAST, 1, LEAST, 0),
    (LEAST, LEAST, 1, 0),
    (LEAST, GREATEST, -1, -1),
    (GREATEST, LEAST, 0, GREATEST),
    (GREATEST, -1, -GREATEST, 0),
    (LEAST, 2, -(2**30), 0),
    (LEAST + 1, -1, GREATEST, 0),
    (LEAST, 10, -214748364, -8),
)


class Calculation(RunCase):
    def assert_calculated(self, expected, left, name, right):
        self.assert_word(expected, f"LD {left}\n{name} {right}")
        self.assert_word(expected, f"LD W0\n{name} W254", words={0: left, 254: right})
        self.assert_word(expected, f"LD W0\n{name} ( {right}\n)", words={0: left})
        self.assert_word(expected, f"LD {left}\n{name} ( 0\nADD W1\n)", words={1: right})

    def assert_faulty(self, number, left, name, right):
        self.assert_error(number, 2, f"LD {left}\n{name} {right}\nNOT\n")
        self.assert_error(number, 2, f"LD W0\n{name} W254\nNOT\n", {0: left, 254: right})
        self.assert_error(number, 4, f"LD W0\n{name} ( W254\n\n)\nNOT\n", {0: left, 254: right})

    def test_add_sub_mul(self):
        for left, right in ((2, 3), (-2, 3), (2, -3), (-2, -3), (0, 0), (0, 9), (9, 0), (46340, 46340), (-46341, 46340)):
            self.assert_calculated(left + right, left, "ADD", right)
            self.assert_calculated(left - right, left, "SUB", right)
            self.assert_calculated(left * right, left, "MUL", right)

    def test_div_goes_toward_0_and_mod_has_the_results_sign(self):
        for left, right, quotient, remainder in DIVISIONS:
            self.assert_calculated(quotient, left, "DIV", right)
            self.assert_calculated(remainder, left, "MOD", right)

    def test_just_within_the_range(self):
        self.assert_calculated(GREATEST, GREATEST - 1, "ADD", 1)
        self.assert_calculated(GREATEST, GREATEST, "ADD", 0)
        self.assert_calculated(LEAST, LEAST + 1, "ADD", -1)
        self.assert_calculated(-1, LEAST, "ADD", GREATEST)
        self.assert_calculated(LEAST, LEAST + 1, "SUB", 1)
        self.assert_calculated(LEAST, -1, "SUB", GREATEST)
        self.assert_calculated(GREATEST, -1, "SUB", LEAST)
        self.assert_calculated(LEAST, 65536, "MUL", -32768)
        self.assert_calculated(LEAST, LEAST, "MUL", 1)
        self.assert_calculated(-GREATEST, GREATEST, "MUL", -1)

    def test_a_word_too_large_or_too_small(self):
        self.assert_faulty(2, GREATEST, "ADD", 1)
        self.assert_faulty(2, GREATEST, "ADD", GREATEST)
        self.assert_faulty(2, LEAST, "ADD", -1)
        self.assert_faulty(2, LEAST, "ADD", LEAST)
        self.assert_faulty(2, LEAST, "SUB", 1)
        self.assert_faulty(2, GREATEST, "SUB", -1)
        self.assert_faulty(2, 0, "SUB", LEAST)
        self.assert_faulty(2, -2, "SUB", GREATEST)
        self.assert_faulty(2, 65536, "MUL", 32768)
        self.assert_faulty(2, 65536, "MUL", -32769)
        self.assert_faulty(2, LEAST, "MUL", -1)
        self.assert_faulty(2, LEAST, "MUL", LEAST)
        self.assert_faulty(2, GREATEST, "MUL", GREATEST)
        self.assert_faulty(2, LEAST, "DIV", -1)

    def test_what_is_left_of_the_same_division_is_0(self):
        self.assert_calculated(0, LEAST, "MOD", -1)

    def test_a_divisor_0(self):
        for left in (0, 1, -1, LEAST, GREATEST):
            self.assert_faulty(3, left, "DIV", 0)
            self.assert_faulty(3, left, "MOD", 0)

    def test_too_large_on_the_way_is_an_error_too(self):
        self.assert_error(2, 2, f"LD {GREATEST}\nADD 1\nSUB 1\nST W0\n")

    def test_one_behind_another(self):
        self.assert_word(((((10 + 5) * 4) - 3) // 2) % 10, "LD 10\nADD 5\nMUL 4\nSUB 3\nDIV 2\nMOD 10")

    def test_no_operand_is_changed(self):
        ran = self.assert_ends([0, 1, 0], "LD W0\nADD W1\nMUL W1\nSUB W0\nDIV W1\nMOD W0\n", words={0: 5, 1: 3})
        self.assertEqual([5, 3, 0], ran.words[:3])

    def test_a_counters_and_a_timers_word(self):
        counted = "LD TRUE\nCTU C31 9\nLD FALSE\nCTU C31 9\nLD TRUE\nCTU C31 9\n"
        self.assert_word(12, counted + "LD 10\nADD V31")
        self.assert_word(10, "LD 10\nADD E0")


class Comparison(RunCase):
    def test_each(self):
        for name, expected in COMPARISONS.items():
            for left, middle, right in ((4, 5, 6), (-6, -5, -4), (-1, 0, 1), (LEAST, 0, GREATEST)):
                for result, bit in zip((left, middle, right), expected):
                    self.assert_bit(bit, f"LD {result}\n{name} {middle}")
                    self.assert_bit(bit, f"LD W0\n{name} W1", words={0: result, 1: middle})
                    self.assert_bit(bit, f"LD {result}\n{name} ( {middle}\n)")

    def test_the_least_and_the_greatest(self):
        for name, expected in COMPARISONS.items():
            self.assert_bit(expected[0], f"LD {LEAST}\n{name} {GREATEST}")
            self.assert_bit(expected[1], f"LD {LEAST}\n{name} {LEAST}")
            self.assert_bit(expected[2], f"LD {GREATEST}\n{name} {LEAST}")


if __name__ == "__main__":
    unittest.main()
