"""How run is called: what it gives back and refuses, and that it changes, keeps and prints nothing."""

import contextlib
import inspect
import io
import sys
import unittest

import scanlist.desk
from helper import GREATEST, LEAST, SAMPLE, RunCase, Unchangeable, codes, words_with
from scanlist.desk import run

WORDS = words_with({0: 7, 5: 1, 6: 3, 100: LEAST, 255: GREATEST})
KEPT = "LD W0\nADD 1\nST W0\nLD I0\nS M0\nLD M0\nST Q63\nCTU C0 1\nST Q1\nTON T0 1\nST Q2\nUP M9\nST Q3\n"
DEEP = "LD I0\n" + "AND ( I0\n" * 8 + ")\n" * 8 + "ST Q0\n"

CALLS = (
    (SAMPLE, [1, 0, 0, 0, 3], [0, 2499, 2500, 2501, 2502]),
    (KEPT, [1, 0, 2**64 - 1], [0, 1, 2**64 - 1]),
    (DEEP, [1, 0], [3, 3]),
    ("LD I0\nST Q0\nJMPCN a\nLD 1\nADD W0\nST W0\nNOT\na:\n", [0, 0, 1, 0], [0, 0, 0, 0]),
    ("", [5, 6], [7, 8]),
    ("", [], []),
    (KEPT, [], []),
    ("a: JMP a", [1], [1]),
    ("NOT\n" * 4096, [1], [1]),
    ("LD TRUE\n" * 4096, [1] * 20, [1] * 20),
    ("\n" * 65536, [0] * 100, [0] * 100),
    ("LD\n", [1], [1]),
    ("JMP b\n", [1], [1]),
    (KEPT, [1, 1], [1, 0]),
    ("LD\n", [1, 1], [1, 0]),
)


def called(text, inputs, times):
    return run(codes(text), list(inputs), list(times), list(WORDS))


class Call(unittest.TestCase):
    def test_its_place_and_its_arguments(self):
        self.assertEqual(["text", "inputs", "times", "words"], list(inspect.signature(run).parameters))
        self.assertEqual("scanlist.desk", scanlist.desk.run.__module__)
        self.assertEqual([0, 0, 256] + WORDS + [3, 0, 0, 0], run(text=[], inputs=[], times=[], words=list(WORDS)))

    def test_it_gives_back_a_list_of_whole_numbers(self):
        for call in CALLS:
            answer = called(*call)
            self.assertIs(list, type(answer))
            self.assertEqual([int] * len(answer), [type(number) for number in answer])

    def test_the_parts_of_an_answer(self):
        text = "LD I0\nST Q0\nLD W0\nADD 1\nST W0\n"
        self.assertEqual([0, 3, 1, 0, 1, 256, 10] + WORDS[1:] + [3, 0, 3, 0], called(text, [1, 2, 3], [0, 0, 0]))
        text = "LD I0\nST Q0\nLD W0\nADD 1\nST W0\nLD I1\nJMPCN end\nADD 1\nend:\n"
        self.assertEqual([0, 1, 1, 256, 8] + WORDS[1:] + [3, 1, 1, 8], called(text, [1, 2, 3], [0, 0, 0]))

    def test_what_is_handed_in_is_not_changed(self):
        for text, inputs, times in CALLS:
            handed = (codes(text), list(inputs), list(times), list(WORDS))
            run(*handed)
            self.assertEqual((codes(text), inputs, times, WORDS), handed)

    def test_it_is_not_changed_for_a_while_either(self):
        for text, inputs, times in CALLS:
            handed = [Unchangeable(numbers) for numbers in (codes(text), inputs, times, WORDS)]
            answer = run(*handed)
            self.assertEqual(called(text, inputs, times), answer)
            self.assertIs(list, type(answer))

    def test_a_second_call_answers_as_the_first(self):
        first = [called(*call) for call in CALLS]
        self.assertEqual(first, [called(*call) for call in CALLS])
        self.assertEqual(first[::-1], [called(*call) for call in reversed(CALLS)])

    def test_what_is_done_to_an_answer_is_not_kept(self):
        for call in CALLS:
            answer = called(*call)
            expected = list(answer)
            answer[:] = [9] * len(answer)
            self.assertEqual(expected, called(*call))

    def test_nothing_is_printed_or_imported(self):
        modules = set(sys.modules)
        printed = io.StringIO()
        with contextlib.redirect_stdout(printed), contextlib.redirect_stderr(printed):
            for call in CALLS:
                called(*call)
        self.assertEqual("", printed.getvalue())
        self.assertEqual(modules, set(sys.modules))

    def test_few_calls_stand_within_one_another(self):
        expected = [called(*call) for call in CALLS]
        limit = sys.getrecursionlimit()
        sys.setrecursionlimit(len(inspect.stack()) + 60)
        try:
            answers = [called(*call) for call in CALLS]
        finally:
            sys.setrecursionlimit(limit)
        self.assertEqual(expected, answers)


class Refusals(unittest.TestCase):
    def assert_refused(self, number, text, times):
        with self.subTest(text=text[:100], times=times[:10]):
            self.assertEqual([number, 0, 256] + WORDS + [0], called(text, [1] * len(times), times))

    def test_no_program(self):
        for text in ("LD\n", ")", "AND ( I0", "a:\na:\n", "JMP a", "LD I64", "NOT\n" * 4097, "TRUE:\n", " " * 256):
            for times in ([], [0], [0, 1], [5, 5]):
                self.assert_refused(-1, text, times)

    def test_a_text_out_of_range(self):
        self.assert_refused(-1, "\n" * 65537, [0])

    def test_times_that_fall(self):
        for text in ("", "LD I0\nST Q0\n", "NOT\n", "LD W0\nADD 1\nST W0\n"):
            for times in ([1, 0], [2**64 - 1, 0], [0, 5, 4], [5, 4, 9], [0, 1, 2, 3, 2**64 - 1, 2**64 - 2]):
                self.assert_refused(-2, text, times)
            self.assert_refused(-2, text, [7] * 15999 + [6])

    def test_no_program_goes_before_times_that_fall(self):
        for text in ("LD\n", ")", "AND ( I0", "a:\na:\n", "JMP a"):
            self.assert_refused(-1, text, [1, 0])

    def test_times_that_stay_or_rise_do_not_fall(self):
        for times in ([], [0], [2**64 - 1], [0, 0], [3, 3, 3], [0, 2**64 - 1], [2**64 - 1] * 2, list(range(100))):
            answer = called("", [1] * len(times), times)
            self.assertEqual([0, len(times)] + [0] * len(times) + [256] + WORDS + [3, 0, len(times), 0], answer)

    def test_too_many_scans(self):
        self.assert_refused(-2, "", [0] * 65537)
        self.assert_refused(-1, "LD", [0] * 65537)
        self.assertEqual([0, 65536], called("", [0] * 65536, [0] * 65536)[:2])

    def test_the_most_scans(self):
        answer = called("LD I0\nST Q0\n", [1] * 16000, [0] * 16000)
        self.assertEqual([0, 16000] + [1] * 16000 + [256] + WORDS + [3, 0, 16000, 0], answer)


class Ends(RunCase):
    def test_no_scans_at_all(self):
        for text in ("", "LD I0\nST Q0\n", SAMPLE, "NOT\n", "a: JMP a\n"):
            ran = self.assert_ends([0, 0, 0], text, [], [], {0: 1, 255: -1})
            self.assertEqual(([], words_with({0: 1, 255: -1})), (ran.outputs, ran.words))

    def test_the_empty_text(self):
        for text in ("", "\n", "; nothing\n", "a:\n"):
            ran = self.assert_ends([0, 3, 0], text, [1, 2, 2**64 - 1], [0, 1, 2], {3: -3})
            self.assertEqual(([0, 0, 0], words_with({3: -3})), (ran.outputs, ran.words))

    def test_an_error_in_the_first_scan(self):
        self.assert_error(1, 1, "NOT\n", {0: 4})
        self.assert_error(1, 5, "LD 5\nST W0\n\n; here\nNOT\nLD I0\nST Q0\n", {0: 4})

    # W0 is changed in the scan of the error, ahead of it, and so is Q0.
    def test_an_error_in_a_later_scan(self):
        text = "LD TRUE\nST Q0\nLD W0\nADD 1\nST W0\n\nLD I0\nJMPCN end\n{}\nend:\nLD W0\nGT 2\nST Q1\n"
        for row, number in (("ADD 1", 1), ("LD W9\nDIV 0", 3), ("LD 2147483647\nADD 1", 2), ("a: JMP a", 4)):
            line = 9 + row.count("\n")
            ran = self.assert_ends([number, 4, line], text.format(row), [2, 4, 0, 0, 1, 0, 1], range(7), {0: 0, 1: 8})
            self.assertEqual(([1, 1, 3, 3], words_with({0: 4, 1: 8})), (ran.outputs, ran.words))

    def test_an_error_in_the_last_scan(self):
        ran = self.assert_ends([1, 2, 3], "LD I0\nJMPCN end\nADD 1\nend:", [0, 0, 1], [1, 1, 1])
        self.assertEqual([0, 0], ran.outputs)

    def test_an_error_in_the_last_line(self):
        self.assert_error(1, 3, "LD I0\n\nADD 1")
        self.assert_error(1, 3, "LD I0\n\nADD 1\n")


if __name__ == "__main__":
    unittest.main()
