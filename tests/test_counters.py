"""CTU and RC."""

import unittest

from helper import GREATEST, LEAST, RunCase
from scanlist.counters import Counter, count_up

SHOWN = "LD C0\nST Q1\nLD V0\nST W0\n"


class CounterCase(RunCase):
    # Each row: the input, and C and V behind the scan.
    def assert_rows(self, text, rows):
        inputs = [row[0] for row in rows]
        for scans, (given, bit, counted) in enumerate(rows, start=1):
            ran = self.assert_ends([0, scans, 0], text + SHOWN, inputs[:scans])
            with self.subTest(text=text, scans=scans):
                self.assertEqual((bit, counted), (ran.outputs[-1] >> 1 & 1, ran.words[0]))


class Counting(CounterCase):
    def test_only_becoming_1_counts(self):
        rows = [(0, 0, 0), (1, 0, 1), (1, 0, 1), (0, 0, 1), (0, 0, 1), (1, 1, 2), (1, 1, 2), (0, 1, 2), (1, 1, 3)]
        self.assert_rows("LD I0\nCTU C0 2\n", rows)

    def test_1_in_the_first_scan_counts(self):
        self.assert_rows("LD I0\nCTU C0 1\n", [(1, 1, 1), (1, 1, 1), (0, 1, 1)])

    def test_the_result_is_the_counters_bit(self):
        for limit in (-1, 0, 1, 2):
            text = f"LD I0\nCTU C0 {limit}\nST Q0\nXOR C0\nST Q1\n"
            self.assert_outputs([int(limit <= 0), int(limit <= 1), int(limit <= 1), 1], text, [0, 1, 0, 1])

    def test_a_limit_of_0_or_below(self):
        for limit in (0, -1, LEAST):
            self.assert_rows(f"LD I0\nCTU C0 {limit}\n", [(0, 1, 0), (1, 1, 1), (0, 1, 1), (1, 1, 2)])

    def test_the_greatest_limit(self):
        self.assert_rows(f"LD I0\nCTU C0 {GREATEST}\n", [(0, 0, 0), (1, 0, 1), (0, 0, 1), (1, 0, 2)])

    def test_before_a_ctu_all_is_0(self):
        self.assert_rows("LD I0\nJMPCN a\nCTU C0 0\na:\n", [(0, 0, 0), (0, 0, 0), (1, 1, 1), (0, 1, 1)])

    # No run is long enough to count so far.
    def test_the_greatest_word_stays(self):
        counter = Counter()
        counter.counted = GREATEST - 1
        for on, counted in ((True, GREATEST), (False, GREATEST), (True, GREATEST), (False, GREATEST), (True, GREATEST)):
            count_up(counter, on, GREATEST)
            self.assertEqual((counted, True), (counter.counted, counter.bit))

    def test_a_ctu_that_is_not_done_sees_nothing(self):
        # I1 lets it be done: 0 between two 1 counts only where CTU saw it.
        rows = [(3, 0, 1), (0, 0, 1), (3, 0, 1), (2, 0, 1), (1, 0, 1), (3, 0, 2)]
        self.assert_rows("LD I1\nJMPCN a\nLD I0\nCTU C0 9\na:\n", rows)


class Resetting(CounterCase):
    def test_where_the_result_is_1(self):
        text = "LD I0\nCTU C0 2\nLD I1\nRC C0\n"
        rows = [(1, 0, 1), (0, 0, 1), (1, 1, 2), (0, 1, 2), (2, 0, 0), (0, 0, 0), (1, 0, 1), (3, 0, 0), (0, 0, 0), (1, 0, 1)]
        self.assert_rows(text, rows)

    def test_it_leaves_what_the_last_ctu_saw(self):
        self.assert_rows("LD I0\nCTU C0 1\nLD I1\nRC C0\n", [(1, 1, 1), (3, 0, 0), (1, 0, 0), (0, 0, 0), (1, 1, 1)])

    def test_ahead_of_the_ctu(self):
        self.assert_rows("LD I1\nRC C0\nLD I0\nCTU C0 1\n", [(1, 1, 1), (3, 0, 0), (0, 0, 0), (3, 1, 1), (2, 0, 0)])

    def test_its_bit_is_0_even_of_a_limit_of_0(self):
        self.assert_rows("LD I0\nCTU C0 0\nLD I1\nRC C0\n", [(0, 1, 0), (2, 0, 0), (0, 1, 0)])

    def test_the_result_stays(self):
        self.assert_outputs([0, 1], "LD I0\nRC C0\nST Q0\n", [0, 1])

    def test_by_its_own_bit(self):
        rows = [(1, 0, 1), (0, 0, 1), (1, 0, 0), (0, 0, 0), (1, 0, 1)]
        self.assert_rows("LD I0\nCTU C0 2\nRC C0\n", rows)


class Several(CounterCase):
    TEXT = "LD I0\nCTU C0 3\nST Q2\nLD I1\nCTU C0 5\nST Q3\n"

    def test_each_sees_what_the_last_one_saw(self):
        self.assert_rows(self.TEXT, [(3, 0, 1), (3, 0, 1), (3, 0, 1), (0, 0, 1), (3, 0, 2)])

    def test_1_and_then_0_counts_in_each_scan(self):
        self.assert_rows(self.TEXT, [(1, 0, 1), (1, 0, 2), (1, 0, 3), (1, 0, 4), (1, 1, 5), (1, 1, 6)])

    def test_0_and_then_1_too(self):
        self.assert_rows(self.TEXT, [(2, 0, 1), (2, 0, 2), (2, 0, 3), (2, 0, 4), (2, 1, 5)])

    def test_each_has_its_own_limit(self):
        self.assert_outputs([0, 0, 4, 4, 14, 14], self.TEXT + "LD C0\nST Q1\n", [1] * 6)

    def test_within_one_scan(self):
        self.assert_word(3, "LD TRUE\nCTU C0 9\nLD FALSE\nCTU C0 9\n" * 3 + "LD V0")

    def test_counters_are_apart(self):
        text = "LD I0\nCTU C0 2\nLD I1\nCTU C31 1\nLD I2\nRC C31\nLD C0\nST Q0\nLD C31\nST Q1\nLD V0\nST W0\nLD V31\nST W1\n"
        ran = self.assert_ends([0, 4, 0], text, [1, 2, 5, 2])
        self.assertEqual(([0, 2, 1, 3], [2, 1]), (ran.outputs, ran.words[:2]))

    def test_each_number(self):
        for number in range(32):
            text = f"LD I0\nCTU C{number} 2\nLD V{number}\nST W0\nLD C{number}\nST Q0\n"
            ran = self.assert_ends([0, 3, 0], text, [1, 0, 1])
            self.assertEqual(([0, 0, 1], 2), (ran.outputs, ran.words[0]))

    def test_a_count_is_a_word(self):
        self.assert_ends([1, 0, 2], "LD V0\nNOT\n")
        self.assert_ends([1, 0, 2], "LD C0\nADD 1\n")


if __name__ == "__main__":
    unittest.main()
