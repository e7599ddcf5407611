"""Operations that are put off, as they are done."""

import unittest

from helper import RunCase
from test_instructions import BIT_OPERATIONS, WORD_OPERATIONS


class Done(RunCase):
    def test_what_is_between_is_worked_out_first(self):
        self.assert_word(2 + 3 * 4, "LD 2\nADD ( 3\nMUL 4\n)")
        self.assert_word((2 + 3) * 4, "LD 2\nADD 3\nMUL 4")
        self.assert_word(20 - (5 - 3), "LD 20\nSUB ( 5\nSUB 3\n)")
        self.assert_bit(1, "LD TRUE\nOR ( FALSE\nAND FALSE\n)")
        self.assert_bit(0, "LD TRUE\nANDN ( FALSE\nOR TRUE\n)")

    def test_it_begins_with_the_operand(self):
        self.assert_word(105, "LD 100\nADD ( 5\n)")
        self.assert_word(107, "LD 100\nADD ( W0\n)", words={0: 7})
        self.assert_bit(1, "LD TRUE\nAND ( I3\n)", [8])
        self.assert_bit(0, "LD TRUE\nAND ( I3\n)", [7])

    def test_a_word_worked_out_to_a_bit(self):
        self.assert_bit(1, "LD TRUE\nAND ( W0\nGT 5\n)", words={0: 6})
        self.assert_bit(0, "LD TRUE\nAND ( W0\nGT 5\n)", words={0: 5})

    def test_a_bit_replaced_by_a_word(self):
        self.assert_word(13, "LD 6\nADD ( TRUE\nLD 7\n)")

    def test_put_off_within_what_is_put_off(self):
        self.assert_word(1 - (2 - (3 - (4 - 5))), "LD 1\nSUB ( 2\nSUB ( 3\nSUB ( 4\nSUB 5\n)\n)\n)")
        self.assert_word(100 - 8 * 2 - 1, "LD 100\nSUB ( 8\nMUL ( 2\n)\nADD 1\n)")

    def test_eight_at_once(self):
        text = "LD 1\n" + "".join(f"SUB ( {number}\n" for number in range(2, 10)) + ")\n" * 8
        self.assert_word(1 - (2 - (3 - (4 - (5 - (6 - (7 - (8 - 9))))))), text)

    def test_unlike_operations_within_one_another(self):
        self.assert_bit(1, "LD FALSE\nOR ( W0\nGE ( 2\nMUL ( 3\nADD 1\n)\n)\n)", words={0: 8})
        self.assert_bit(0, "LD FALSE\nOR ( W0\nGE ( 2\nMUL ( 3\nADD 1\n)\n)\n)", words={0: 7})

    def test_one_behind_another(self):
        self.assert_word(1 + 2 * 3 - 10 // 5, "LD 1\nADD ( 2\nMUL 3\n)\nSUB ( 10\nDIV 5\n)")

    def test_in_each_scan_anew(self):
        ran = self.assert_ends([0, 3, 0], "LD W0\nADD ( 2\nMUL W0\n)\nST W0\n", [0] * 3, words={0: 1})
        self.assertEqual(27, ran.words[0])

    def test_timers_counters_and_edges_between(self):
        text = "LD TRUE\nAND ( I0\nTON T0 5\n)\nST Q0\nLD TRUE\nAND ( I0\nUP M0\n)\nST Q1\n"
        text += "LD TRUE\nAND ( I0\nCTU C0 1\n)\nST Q2\nLD TRUE\nAND ( I1\nRC C0\n)\n"
        self.assert_outputs([0, 6, 5, 4, 0], text, [0, 1, 1, 2, 0], [0, 10, 15, 16, 17])

    def test_a_label_before_it(self):
        self.assert_word(9, "LD 4\nJMP a\nLD 0\na: ADD ( 5\n)")


class Errors(RunCase):
    def test_nothing_is_an_error_where_it_is_put_by(self):
        for name in BIT_OPERATIONS + WORD_OPERATIONS:
            for operand in ("TRUE", "5", "0"):
                self.assert_error(1, 2, f"\n{name} ( {operand}\n\n)\n")

    def test_the_wrong_kind_put_by_is_one_where_it_is_closed(self):
        for name in BIT_OPERATIONS:
            for word in ("0", "1"):
                self.assert_error(1, 4, f"LD {word}\n{name} ( TRUE\nNOT\n)\n")
        for name in WORD_OPERATIONS:
            for bit in ("FALSE", "TRUE"):
                self.assert_error(1, 4, f"LD {bit}\n{name} ( 0\nMUL 2\n)\n")

    # Also where the first alone would tell the result.
    def test_the_wrong_kind_worked_out_is_one_too(self):
        for name in BIT_OPERATIONS:
            for bit in ("FALSE", "TRUE"):
                self.assert_error(1, 3, f"LD {bit}\n{name} ( 1\n)\n")
                self.assert_error(1, 3, f"LD {bit}\n{name} ( 0\n)\n")
        for name in WORD_OPERATIONS:
            self.assert_error(1, 3, f"LD 5\n{name} ( TRUE\n)\n")
            self.assert_error(1, 3, f"LD 5\n{name} ( FALSE\n)\n")

    def test_both_of_the_wrong_kind(self):
        for name in BIT_OPERATIONS:
            self.assert_error(1, 3, f"LD 1\n{name} ( 0\n)\n")
        for name in WORD_OPERATIONS:
            self.assert_error(1, 3, f"LD TRUE\n{name} ( FALSE\n)\n")

    def test_an_error_between_comes_first(self):
        self.assert_error(1, 3, "LD 5\nAND ( 1\nNOT\n)\n")
        self.assert_error(3, 3, "LD TRUE\nADD ( 1\nDIV 0\n)\n")
        self.assert_error(1, 4, "LD 5\nADD ( 1\nADD ( TRUE\n)\n)\n")
        self.assert_error(1, 5, "LD TRUE\nADD ( 1\nADD ( 1\n)\n)\n")

    def test_too_large_or_by_0_is_one_where_it_is_closed(self):
        self.assert_error(2, 4, "LD 2147483647\nADD ( 1\nMUL 1\n)\n")
        self.assert_error(3, 4, "LD 5\nDIV ( 1\nSUB 1\n)\n")
        self.assert_error(3, 3, "LD 5\nMOD ( 0\n)\n")


if __name__ == "__main__":
    unittest.main()
