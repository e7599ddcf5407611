"""What the tests of the program share."""

import unittest

from scanlist.desk import check, run

SAMPLE = """\
        LD   I0        ; start
        OR   M0        ; held
        ANDN I1        ; stop
        ST   M0
        TON  T3 2500   ; after 2.5 seconds
        ST   Q0
        LD   W5
        ADD  ( 2
        MUL  W6
        )
        ST   W5
        LDN  M0
        JMPC end
        LD   TRUE
        CTU  C1 10
end:
"""

LEAST = -(2**31)
GREATEST = 2**31 - 1


class ChangedError(Exception):
    pass


def refuse(self, *arguments, **named):
    raise ChangedError()


# Tells of a change that is taken back before the call is over, too.
class Unchangeable(list):
    pass


for method in "append clear extend insert pop remove reverse sort __setitem__ __delitem__ __iadd__ __imul__".split():
    setattr(Unchangeable, method, refuse)


def codes(text):
    return list(text.encode("latin-1"))


class CheckCase(unittest.TestCase):
    def assert_program(self, text):
        self.assert_answer([0], text)

    def assert_wrong(self, line, text):
        self.assert_answer([-1, line], text)

    def assert_answer(self, answer, text):
        with self.subTest(text=text if len(text) < 300 else text[:300] + "..."):
            self.assertEqual(answer, check(codes(text)))

    # The line under test is the second of three, so that an error's line is neither the first nor the last.
    def assert_reads(self, *rows):
        for row in rows:
            self.assert_program("LD I0\n" + row + "\nNOT\n")

    def assert_unreadable(self, *rows):
        for row in rows:
            self.assert_wrong(2, "LD I0\n" + row + "\nNOT\n")


# All 256 words: those that are named by their numbers, and 0 for the others.
def words_with(named):
    return [named.get(number, 0) for number in range(256)]


# What run answered, taken apart.
class Ran:
    def __init__(self, answer):
        self.number = answer[0]
        self.outputs, rest = cut(answer[1:])
        self.words, rest = cut(rest)
        self.ending, rest = cut(rest)
        self.rest = rest


def cut(numbers):
    behind = 1 + numbers[0]
    return numbers[1:behind], numbers[behind:]


class RunCase(unittest.TestCase):
    def ran(self, text, inputs=(0,), times=None, words=None):
        times = [0] * len(inputs) if times is None else times
        ran = Ran(run(codes(text), list(inputs), list(times), words_with(words or {})))
        self.assertEqual([], ran.rest)
        self.assertEqual(256, len(ran.words))
        return ran

    def assert_ends(self, ending, text, inputs=(0,), times=None, words=None):
        with self.subTest(text=text if len(text) < 300 else text[:300] + "..."):
            ran = self.ran(text, inputs, times, words)
            self.assertEqual((0, ending), (ran.number, ran.ending))
            return ran

    def assert_outputs(self, outputs, text, inputs=(0,), times=None, words=None):
        ran = self.assert_ends([0, len(inputs), 0], text, inputs, times, words)
        with self.subTest(text=text):
            self.assertEqual(list(outputs), ran.outputs)

    # The result behind the text, which is a bit.
    def assert_bit(self, bit, text, inputs=(0,), words=None):
        ran = self.assert_ends([0, 1, 0], text + "\nST Q0\n", inputs, None, words)
        with self.subTest(text=text):
            self.assertEqual(bit, ran.outputs[0] & 1)

    # The same of a word.
    def assert_word(self, word, text, inputs=(0,), words=None):
        ran = self.assert_ends([0, 1, 0], text + "\nST W255\n", inputs, None, words)
        with self.subTest(text=text):
            self.assertEqual(word, ran.words[255])

    # In the first of its scans, of which there are two: nothing was done, then.
    def assert_error(self, number, line, text, words=None):
        ran = self.assert_ends([number, 0, line], text, (0, 0), None, words)
        with self.subTest(text=text):
            self.assertEqual(([], words_with(words or {})), (ran.outputs, ran.words))
