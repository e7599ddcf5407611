"""Lines, blanks, comments, words and numbers."""

import unittest

from helper import SAMPLE, CheckCase


class Lines(CheckCase):
    def test_the_documents_program(self):
        self.assert_program(SAMPLE)

    def test_the_last_line_may_go_without_its_line_feed(self):
        self.assert_program(SAMPLE[:-1])
        self.assert_program("LD I0")
        self.assert_program("LD I0\n")
        self.assert_wrong(2, "LD I0\nLD")
        self.assert_wrong(2, "LD I0\nLD\n")

    def test_texts_without_an_instruction(self):
        for text in ("", "\n", "\n\n\n", " ", "\t", " \t \n", ";", ";\n", "; nothing\n\n  ; here"):
            self.assert_program(text)

    def test_empty_lines_are_counted(self):
        self.assert_wrong(5, "\n\n; LD\n \t\nLD\n")

    def test_255_bytes_are_the_most_of_a_line(self):
        for end in ("", "\n"):
            self.assert_program("LD I0" + " " * 250 + end)
            self.assert_wrong(1, "LD I0" + " " * 251 + end)
            self.assert_program("\n" + " " * 255 + end)
            self.assert_wrong(2, "\n" + " " * 256 + end)
            self.assert_program("\n" + "\t" * 250 + "LD I0" + end)
            self.assert_wrong(2, "\n" + "\t" * 251 + "LD I0" + end)

    def test_a_comment_is_part_of_its_lines_length(self):
        self.assert_program("NOT\n;" + "x" * 254 + "\nNOT\n")
        self.assert_wrong(2, "NOT\n;" + "x" * 255 + "\nNOT\n")

    def test_only_a_line_feed_ends_a_line(self):
        for sign in "\r\v\f\x00\x1c\x85":
            self.assert_wrong(1, "LD I0" + sign + "NOT\n")
            self.assert_wrong(1, "LD I0" + sign + "\n")
            self.assert_wrong(1, sign)

    def test_the_first_wrong_line_is_told(self):
        self.assert_wrong(1, "LD\nLD\nLD\n")
        self.assert_wrong(3, "NOT\n\nLD\nLD\n")


class Comments(CheckCase):
    def test_what_is_behind_a_semicolon_is_not_there(self):
        self.assert_reads("LD I0;", "LD I0;;", "LD I0;LD", "LD I0 ; ) ( : 99999999999", "; a_word_of_more_than_15_bytes")
        self.assert_reads("a:;", "a:NOT;b:", ";a:;a:")

    def test_any_byte_but_a_line_feed_may_stand_in_a_comment(self):
        self.assert_program(";" + "".join(map(chr, range(10))) + "".join(map(chr, range(11, 255))) + "\nNOT")
        self.assert_program(";\xff\r\x00\n")

    def test_a_semicolon_cuts_an_instruction_off(self):
        self.assert_unreadable("LD ;I0", "TON T0; 5", "L;D I0", "AND ( ; I0", "JMP ;a")

    def test_a_comment_ends_with_its_line(self):
        self.assert_wrong(2, ";\nLD\n")


class Blanks(CheckCase):
    def test_spaces_and_tabs_alike(self):
        self.assert_reads("LD\tI0", " LD I0 ", "\t\tLD \t I0\t", "\tTON\tT0\t5", "a\t:\tNOT", "  a  :  ", " \t")

    def test_signs_that_do_not_run_together_need_none(self):
        self.assert_program("AND(I0\n)\nADD(-5\n)\nMUL(W0;\n)")
        self.assert_reads("a:LD I0", "a:NOT", "LD-5", "ADD-5", "CTU C0-5", "TON T0-0")

    def test_words_and_numbers_that_run_together_are_one_sign(self):
        self.assert_unreadable("LDI0", "LD5", "TON T05", "TONT0 5", "JMPa", "RETLD I0")

    def test_a_sign_has_no_blank_within(self):
        self.assert_unreadable("L D I0", "LD I 0", "LD - 5", "LD 1 2", "LD -\t5")

    def test_nothing_else_is_a_sign(self):
        for sign in "!\"#$%&'*+,-./<=>?@[\\]^`{|}~" + "".join(map(chr, range(127, 256))):
            self.assert_unreadable(sign, "LD I0" + sign, sign + "LD I0", "LD " + sign + "I0")

    def test_control_bytes_are_no_blanks(self):
        for code in range(32):
            if chr(code) not in "\t\n":
                self.assert_unreadable("LD" + chr(code) + "I0", chr(code))


class Words(CheckCase):
    def test_15_bytes_are_the_most_of_a_word(self):
        self.assert_program("a23456789012345:\nJMP a23456789012345")
        self.assert_wrong(1, "a234567890123456:\nNOT")
        self.assert_wrong(1, "JMP a234567890123456\na234567890123456:")
        self.assert_wrong(2, "a23456789012345:\nJMP a234567890123456")

    def test_letters_digits_and_underlines(self):
        self.assert_program("azAZ09_:\n_:\n__1:\nz9:\nJMP _\nJMP azAZ09_\nJMP __1\nJMP z9")

    def test_a_word_does_not_begin_with_a_digit(self):
        self.assert_unreadable("1a:", "9:", "JMP 1a", "JMP 1", "-a:", "-:")

    def test_letters_are_ascii_ones(self):
        self.assert_unreadable("\xe4:", "a\xe4:", "\xaa:", "\xb2:", "LD I\xb2", "LD \xb2")

    def test_upper_and_lower_letters_are_unlike(self):
        self.assert_unreadable("ld I0", "Ld I0", "LD i0", "LD true", "LD True", "not", "LD w5")
        self.assert_program("a:\nA:\nJMP a\nJMP A")
        self.assert_wrong(2, "a:\nJMP A")


class Numbers(CheckCase):
    def test_the_least_and_the_greatest(self):
        self.assert_reads("LD 2147483647", "LD -2147483648", "LD 0", "LD -0", "LD -1")
        self.assert_reads("ADD 2147483647", "ADD -2147483648", "TON T0 2147483647", "CTU C0 2147483647")
        self.assert_reads("CTU C0 -2147483648")
        self.assert_unreadable("LD 2147483648", "LD -2147483649", "LD 99999999999999999999", "ADD 2147483648")
        self.assert_unreadable("TON T0 2147483648", "CTU C0 2147483648", "CTU C0 -2147483649", "GT -2147483649")

    def test_in_parentheses(self):
        self.assert_program("ADD ( 2147483647\n)\nADD ( -2147483648\n)")
        self.assert_wrong(1, "ADD ( 2147483648\n)")
        self.assert_wrong(1, "ADD ( -2147483649\n)")

    def test_zeros_before_a_number_by_itself(self):
        self.assert_reads("LD 00", "LD 007", "LD -007", "LD 0000000000002147483647", "LD " + "0" * 251 + "1")
        self.assert_unreadable("LD 0000000000002147483648", "LD " + "9" * 252)

    def test_what_is_no_number(self):
        self.assert_unreadable("LD -", "LD --5", "LD +5", "LD 5-", "LD 1-2", "LD 1.5", "LD 0x10", "LD 1_000", "LD 5a")


if __name__ == "__main__":
    unittest.main()
