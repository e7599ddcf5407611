"""What the tests of the program share."""

import unittest

from scanlist.desk import check

SAMPLE = """\
        LD   I0        ; start
        OR   M0        ; held
        ANDN I1        ; stop
        ST   M0
        TON  T3 2500   ; after 2.5 seconds
        ST   Q0
        LD   W5
        ADD  ( 2
        MUL  W6
        )
        ST   W5
        LDN  M0
        JMPC end
        LD   TRUE
        CTU  C1 10
end:
"""


def codes(text):
    return list(text.encode("latin-1"))


class CheckCase(unittest.TestCase):
    def assert_program(self, text):
        self.assert_answer([0], text)

    def assert_wrong(self, line, text):
        self.assert_answer([-1, line], text)

    def assert_answer(self, answer, text):
        with self.subTest(text=text if len(text) < 300 else text[:300] + "..."):
            self.assertEqual(answer, check(codes(text)))

    # The line under test is the second of three, so that an error's line is neither the first nor the last.
    def assert_reads(self, *rows):
        for row in rows:
            self.assert_program("LD I0\n" + row + "\nNOT\n")

    def assert_unreadable(self, *rows):
        for row in rows:
            self.assert_wrong(2, "LD I0\n" + row + "\nNOT\n")
