"""Operations that are put off till their closing line."""

import unittest

from helper import CheckCase
from test_instructions import BIT_OPERATIONS, TIMERS, VALUES, WORD_OPERATIONS

OPERATIONS = BIT_OPERATIONS + WORD_OPERATIONS


def nested(depth):
    return "AND ( I0\n" * depth


class Opening(CheckCase):
    def test_each_operation_may_be_put_off_with_any_value(self):
        for name in OPERATIONS:
            for value in VALUES:
                self.assert_program(f"{name} ( {value}\n)\n")

    def test_no_other_instruction_may(self):
        for name in ("LD", "LDN", "ST", "STN", "S", "R", "NOT", "RET", "RETC", "RC", "UP", "DOWN", "JMP", "JMPC", "JMPCN"):
            for value in ("I0", "Q0", "M0", "C0", "5"):
                self.assert_wrong(2, f"NOT\n{name} ( {value}\n)\n")
        for name in TIMERS:
            self.assert_wrong(1, f"{name} ( T0 5\n)\n")
        self.assert_wrong(1, "CTU ( C0 5\n)\n")

    def test_a_value_must_stand_behind_it(self):
        for rest in ("", "x", "( I0", ")", "I64", "I00", ":", "I0 I0", "I0 )", "5 5", "AND I0", "2147483648"):
            self.assert_wrong(2, f"NOT\nAND ( {rest}\n)\n")

    def test_it_must_stand_before_the_value(self):
        for row in ("AND I0 (", "AND I0 ( I0", "( AND I0", "AND ) I0", "AND )"):
            self.assert_wrong(2, f"NOT\n{row}\n)\n")

    def test_a_label_before_the_outermost(self):
        self.assert_program("JMP a\na: AND ( I0\n)\n")


class Closing(CheckCase):
    def test_the_closing_line_stands_by_itself(self):
        self.assert_program("AND ( I0\n  \t) ; closed\n")
        for row in ("NOT )", ") NOT", ") )", "))", ") I0", ") ST Q0", "()", ")("):
            self.assert_wrong(2, f"AND ( I0\n{row}\n)\n")

    def test_one_that_is_not_closed(self):
        self.assert_wrong(2, "AND ( I0")
        self.assert_wrong(2, "AND ( I0\n")
        self.assert_wrong(3, "AND ( I0\n\n")
        self.assert_wrong(3, "AND ( I0\n ")
        self.assert_wrong(3, "AND ( I0\n;")
        self.assert_wrong(4, "NOT\nAND ( I0\nNOT\n")
        self.assert_wrong(5, "AND ( I0\nAND ( I0\n)\n\n")
        self.assert_wrong(9, nested(8))

    def test_one_too_many(self):
        self.assert_wrong(1, ")")
        self.assert_wrong(2, "NOT\n)\nAND ( I0\n")
        self.assert_wrong(3, "AND ( I0\n)\n)\nAND ( I0\n)\n")
        self.assert_wrong(17, nested(8) + ")\n" * 9)

    def test_the_closing_line_in_a_comment_closes_nothing(self):
        self.assert_wrong(3, "AND ( I0\n; )\n")


class Depth(CheckCase):
    def test_eight_at_once(self):
        for depth in range(1, 9):
            self.assert_program(nested(depth) + ")\n" * depth)

    def test_a_ninth_within_another(self):
        self.assert_wrong(9, nested(9) + ")\n" * 9)
        self.assert_wrong(11, nested(8) + "NOT\n\n" + nested(1) + ")\n" * 9)
        self.assert_wrong(9, nested(20))

    def test_more_than_eight_one_behind_another(self):
        self.assert_program("AND ( I0\n)\n" * 50)
        self.assert_program(nested(8) + ")\nAND ( I0\n" * 5 + ")\n" * 8)
        self.assert_wrong(11, nested(8) + ")\n" + nested(2) + ")\n" * 9)


class Within(CheckCase):
    def test_what_may_stand_in_them(self):
        rows = ["LD I0", "LD W0", "LDN M0", "NOT", "TON T0 5", "TOF T0 5", "TP T0 5", "CTU C0 5", "RC C0", "UP M0"]
        rows += ["DOWN M0", "", "  ", "; here"]
        rows += [f"{name} I0" for name in BIT_OPERATIONS] + [f"{name} W0" for name in WORD_OPERATIONS]
        rows += [f"{name} ( W0\n)" for name in OPERATIONS]
        for row in rows:
            self.assert_program(f"AND ( I0\n{row}\n)\n")

    def test_what_must_not(self):
        rows = ["JMP a", "JMPC a", "JMPCN a", "RET", "RETC", "ST Q0", "ST M0", "ST W0", "STN Q0", "S Q0", "R Q0"]
        rows += ["b:", "b: NOT", "b: )", "b: AND ( I0", "b:;"]
        for row in rows:
            self.assert_wrong(3, f"a:\nAND ( I0\n{row}\n)\n")
            self.assert_wrong(6, f"a:\nAND ( I0\nAND ( I0\n)\n\n{row}\n)\n")
            self.assert_wrong(10, "a:\n" + nested(8) + f"{row}\n" + ")\n" * 8)

    def test_it_may_again_behind_them(self):
        for row in ("JMP a", "JMPC a", "JMPCN a", "RET", "RETC", "ST Q0", "STN Q0", "S Q0", "R Q0", "b:", "b: NOT"):
            self.assert_program(f"a:\nAND ( I0\nAND ( I0\n)\n)\n{row}\n")


if __name__ == "__main__":
    unittest.main()
