"""Labels, jumps, how much a program may hold, and which of several faults is told."""

import unittest

from helper import CheckCase
from test_instructions import SIZES
from test_parentheses import nested

JUMPS = ("JMP", "JMPC", "JMPCN")
INSTRUCTIONS = (
    "LD LDN ST STN S R NOT AND OR XOR ANDN ORN XORN ADD SUB MUL DIV MOD GT GE EQ NE LE LT "
    "JMP JMPC JMPCN RET RETC TON TOF TP CTU RC UP DOWN"
).split()


class Labels(CheckCase):
    def test_a_label_by_itself_or_before_an_instruction(self):
        self.assert_reads("a:", "a :", "a: NOT", "a:NOT", "a : LD I0", "  a:  ; here", "LD: LD I0", "NOT: NOT")

    def test_what_is_no_label(self):
        self.assert_unreadable(":", ": a", "a", "a b:", "a::", "a: :", "a: b:", "5:", "(:", "):", "::", "a: b: NOT")
        self.assert_unreadable("NOT a:", "LD I0 a:", "NOT:NOT:NOT", "-1: NOT")

    def test_one_of_the_words_is_no_label(self):
        for letter, size in SIZES.items():
            self.assert_unreadable(f"{letter}0:", f"{letter}{size - 1}:", f"{letter}1: NOT", f"{letter}7 :")
        self.assert_unreadable("TRUE:", "FALSE:", "TRUE: NOT")

    def test_what_is_none_of_the_words_may_be(self):
        for letter, size in SIZES.items():
            names = (letter, f"{letter}{size}", f"{letter}00", f"{letter}01", f"{letter.lower()}0", f"{letter}_0")
            self.assert_reads(*(f"{name}:" for name in names))
            self.assert_program("".join(f"{name}: JMP {name}\n" for name in names))
        self.assert_reads("true:", "False:", "TRUE0:", "A0:")

    def test_an_instructions_word_may_be(self):
        for name in INSTRUCTIONS:
            self.assert_program(f"{name}:\nJMP {name}\n")
            self.assert_program(f"JMP {name}\n{name}: NOT")

    def test_labels_differ(self):
        self.assert_wrong(2, "a:\na:\n")
        self.assert_wrong(4, "a:\nb:\nNOT\na: NOT\nb:\n")
        self.assert_wrong(3, "a: NOT\nb: NOT\nb:\na:\n")
        self.assert_program("a:\nb:\naa:\nA:\nab:\n")


class Jumps(CheckCase):
    def test_before_and_behind_and_at_itself(self):
        for name in JUMPS:
            self.assert_program(f"a:\n{name} a\n")
            self.assert_program(f"{name} a\na:\n")
            self.assert_program(f"a: {name} a\n")
            self.assert_program(f"{name} a\n{name} a\na:\n{name} a")

    def test_a_label_that_stands_nowhere(self):
        for name in JUMPS:
            self.assert_wrong(1, f"{name} a\n")
            self.assert_wrong(3, f"a:\n{name} a\n{name} b\n{name} c\n")
            self.assert_wrong(2, f"aa:\n{name} a\n")
            self.assert_wrong(1, f"{name} a; a:\n")

    def test_any_word_can_be_read_behind_them(self):
        # Each is read, so the unreadable line behind it is the one that is told.
        for name in JUMPS:
            for word in ("I0", "W255", "TRUE", "FALSE", "T31", "LD", "NOT", "x"):
                self.assert_wrong(1, f"{name} {word}\n")
                self.assert_wrong(2, f"{name} {word}\nLD\n")

    def test_what_is_no_word_cannot(self):
        for name in JUMPS:
            for rest in ("", " 5", " -5", " (", " )", " ( a", " a a", " a:", " a b", " a 5", " 5a", " : a"):
                self.assert_wrong(2, f"a:\n{name}{rest}\nLD\n")

    def test_a_jumps_own_word_as_a_label(self):
        self.assert_program("JMP: JMP JMP\n")


class WhichIsTold(CheckCase):
    def test_the_first_label_that_is_wrong(self):
        self.assert_wrong(2, "a:\nJMP b\na:\n")
        self.assert_wrong(2, "a:\na:\nJMP b\n")
        self.assert_wrong(2, "a:\na: JMP b\nJMP c\n")
        self.assert_wrong(1, "a: JMP b\na:\n")

    def test_a_line_that_cannot_be_read_goes_before_labels(self):
        for wrong in ("LD", ")", "TRUE:", "x", "NOT" + " " * 253, "a23456789012345_:", "LD 2147483648", "\xff"):
            self.assert_wrong(4, f"JMP b\na:\na:\n{wrong}\n")

    def test_parentheses_go_before_labels(self):
        self.assert_wrong(5, "JMP b\na:\na:\nAND ( I0\n")
        self.assert_wrong(5, "JMP b\na:\na:\nAND ( I0\nST Q0\n)\n")
        self.assert_wrong(5, "JMP b\na:\na:\nAND ( I0\na:\n)\n")
        self.assert_wrong(12, "JMP b\na:\na:\n" + nested(9) + ")\n" * 9)

    def test_the_4097th_instruction_goes_before_labels(self):
        self.assert_wrong(4099, "a:\na:\nJMP b\n" + "NOT\n" * 4096)

    def test_the_first_line_of_several_kinds(self):
        self.assert_wrong(2, "NOT\nTRUE:\n)\nLD\n")
        self.assert_wrong(2, "NOT\n)\nTRUE:\nLD\n")
        self.assert_wrong(2, "AND ( I0\nRET\nLD\n")
        self.assert_wrong(3, "AND ( I0\nNOT\nLD\n")
        self.assert_wrong(4097, "NOT\n" * 4097 + ")\nLD\n")
        self.assert_wrong(4096, "NOT\n" * 4095 + ")\nNOT\nNOT\n")


class HowMuch(CheckCase):
    def test_4096_instructions(self):
        self.assert_program("NOT\n" * 4096)
        self.assert_program("NOT\n" * 4095 + "NOT")
        self.assert_wrong(4097, "NOT\n" * 4097)
        self.assert_wrong(4097, "NOT\n" * 4096 + "NOT")
        self.assert_wrong(4097, "NOT\n" * 5000)

    def test_lines_without_an_instruction_are_not_counted(self):
        labels = "".join(f"a{number}:\n" for number in range(100))
        most = labels + "\n; NOT\n \n" + "NOT\n" * 4096 + "\n;\nb:\n"
        self.assert_program(most)
        self.assert_wrong(100 + 3 + 4096 + 3 + 1, most + "NOT\n")

    def test_a_label_before_an_instruction_is_not_counted(self):
        self.assert_program("".join(f"a{number}:NOT\n" for number in range(4096)))
        self.assert_wrong(4097, "".join(f"a{number}:NOT\n" for number in range(4097)))

    def test_a_closing_line_is_counted(self):
        self.assert_program("NOT\n" * 4094 + "AND ( I0\n)\n")
        self.assert_wrong(4097, "NOT\n" * 4095 + "AND ( I0\n)\n")
        self.assert_program("AND ( I0\n)\n" * 2048)
        self.assert_wrong(4097, "AND ( I0\n)\n" * 2048 + "NOT\n")

    def test_the_4097th_within_parentheses(self):
        self.assert_wrong(4097, "AND ( I0\n" + "NOT\n" * 4096)
        self.assert_wrong(4097, "AND ( I0\n" + "NOT\n" * 4095)

    def test_65536_bytes(self):
        self.assert_program("\n" * 65536)
        self.assert_program((";" + "x" * 254 + "\n") * 256)
        self.assert_program("NOT" + "\n" * 65533)
        self.assert_program("\n" * 65533 + "NOT")
        self.assert_wrong(65535, "\n" * 65534 + "LD")
        self.assert_wrong(65529, "AND ( I0" + "\n" * 65528)
        self.assert_wrong(1, "x" * 65536)
        self.assert_wrong(1, "(" * 65536)
        self.assert_wrong(1, " " * 65536)

    def test_many_labels_and_jumps(self):
        labels = "".join(f"a{number}:\n" for number in range(4000))
        jumps = "".join(f"JMP a{number}\n" for number in reversed(range(3000)))
        self.assert_program(jumps + labels)
        self.assert_wrong(7001, jumps + labels + "a0:\n")
        self.assert_wrong(7001, jumps + labels + "JMP a4000\n")

    def test_a_length_out_of_range(self):
        self.assert_wrong(0, "\n" * 65537)
        self.assert_wrong(0, "x" * 65537)


if __name__ == "__main__":
    unittest.main()
