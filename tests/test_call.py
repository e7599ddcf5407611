"""How check is called: what it gives back, and that it changes, keeps and prints nothing."""

import contextlib
import inspect
import io
import sys
import unittest

import scanlist.desk
from helper import SAMPLE, Unchangeable, codes
from scanlist.desk import check

TEXTS = (SAMPLE, "", "NOT", "LD\n", "AND ( I0\n", "JMP a\n", "a:\na:\n", ")", "a: JMP a", "\n" * 65536, "NOT\n" * 4097)


class Call(unittest.TestCase):
    def test_its_place_and_its_argument(self):
        self.assertEqual(["text"], list(inspect.signature(check).parameters))
        self.assertEqual("scanlist.desk", scanlist.desk.check.__module__)
        self.assertEqual([0], check(text=codes("NOT")))

    def test_it_gives_back_a_list_of_whole_numbers(self):
        for text in TEXTS:
            answer = check(codes(text))
            self.assertIs(list, type(answer))
            self.assertEqual([int] * len(answer), [type(number) for number in answer])
            self.assertIn(len(answer), (1, 2))
            self.assertEqual(0 if len(answer) == 1 else -1, answer[0])

    def test_what_is_handed_in_is_not_changed(self):
        for text in TEXTS:
            handed = codes(text)
            check(handed)
            self.assertEqual(codes(text), handed)

    def test_it_is_not_changed_for_a_while_either(self):
        for text in TEXTS:
            self.assertEqual(check(codes(text)), check(Unchangeable(codes(text))))

    def test_a_second_call_answers_as_the_first(self):
        first = [check(codes(text)) for text in TEXTS]
        self.assertEqual(first, [check(codes(text)) for text in TEXTS])
        self.assertEqual(first[::-1], [check(codes(text)) for text in reversed(TEXTS)])

    def test_what_is_done_to_an_answer_is_not_kept(self):
        for text in TEXTS:
            answer = check(codes(text))
            expected = list(answer)
            answer.append(7)
            self.assertEqual(expected, check(codes(text)))

    def test_nothing_is_printed_or_imported(self):
        modules = set(sys.modules)
        printed = io.StringIO()
        with contextlib.redirect_stdout(printed), contextlib.redirect_stderr(printed):
            for text in TEXTS:
                check(codes(text))
        self.assertEqual("", printed.getvalue())
        self.assertEqual(modules, set(sys.modules))

    def test_few_calls_stand_within_one_another(self):
        limit = sys.getrecursionlimit()
        sys.setrecursionlimit(len(inspect.stack()) + 60)
        try:
            answers = [check(codes(text)) for text in TEXTS]
        finally:
            sys.setrecursionlimit(limit)
        self.assertEqual(answers, [check(codes(text)) for text in TEXTS])


if __name__ == "__main__":
    unittest.main()
