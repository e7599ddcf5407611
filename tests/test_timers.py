"""TON, TOF and TP, scan by scan."""

import unittest

from helper import GREATEST, RunCase

KINDS = ("TON", "TOF", "TP")
LAST = 2**64 - 1

# I0 is the result, I1 to I3 tell which of the three is done; Q0 gets the result, Q1 the timer's bit, W0 its time.
TABLE = """\
        LD I1
        JMPCN not_ton
        LD I0
        TON {timer} {limit}
        ST Q0
not_ton: LD I2
        JMPCN not_tof
        LD I0
        TOF {timer} {limit}
        ST Q0
not_tof: LD I3
        JMPCN not_tp
        LD I0
        TP {timer} {limit}
        ST Q0
not_tp: LD {timer}
        ST Q1
        LD {time}
        ST W0
"""


def input_of(kind, on):
    return on if kind is None else on + (2 << KINDS.index(kind))


class TimerCase(RunCase):
    # Each row: the time, the instruction or None, the result before it, T and E behind it.
    def assert_rows(self, limit, rows, number=0):
        text = TABLE.format(timer=f"T{number}", time=f"E{number}", limit=limit)
        inputs = [input_of(kind, on) for time, kind, on, bit, elapsed in rows]
        times = [row[0] for row in rows]
        for count, (time, kind, on, bit, elapsed) in enumerate(rows, start=1):
            ran = self.assert_ends([0, count, 0], text, inputs[:count], times[:count])
            with self.subTest(limit=limit, row=count, time=time, kind=kind):
                self.assertEqual((bit, elapsed), (ran.outputs[-1] >> 1, ran.words[0]))
                if kind is not None:
                    self.assertEqual(bit, ran.outputs[-1] & 1)

    def assert_kind(self, kind, limit, rows, number=0):
        self.assert_rows(limit, [(time, kind, on, bit, elapsed) for time, on, bit, elapsed in rows], number)


class OnDelay(TimerCase):
    def test_becoming_1_staying_and_becoming_0(self):
        rows = [(5, 0, 0, 0), (7, 1, 0, 0), (12, 1, 0, 5), (16, 1, 0, 9), (17, 1, 1, 10), (30, 1, 1, 10), (31, 0, 0, 0)]
        rows += [(40, 1, 0, 0), (49, 1, 0, 9), (50, 0, 0, 0), (51, 0, 0, 0), (60, 1, 0, 0), (100, 1, 1, 10), (101, 0, 0, 0)]
        self.assert_kind("TON", 10, rows)

    def test_1_in_the_first_scan(self):
        self.assert_kind("TON", 10, [(1000, 1, 0, 0), (1009, 1, 0, 9), (1010, 1, 1, 10)])
        self.assert_kind("TON", 10, [(0, 1, 0, 0), (11, 1, 1, 10)])

    def test_a_duration_of_0(self):
        self.assert_kind("TON", 0, [(5, 0, 0, 0), (6, 1, 1, 0), (7, 1, 1, 0), (8, 0, 0, 0), (8, 1, 1, 0)])

    def test_a_short_0_begins_it_anew(self):
        self.assert_kind("TON", 3, [(0, 1, 0, 0), (2, 1, 0, 2), (2, 0, 0, 0), (2, 1, 0, 0), (4, 1, 0, 2), (5, 1, 1, 3)])


class OffDelay(TimerCase):
    def test_becoming_1_staying_and_becoming_0(self):
        rows = [(0, 0, 0, 0), (50, 0, 0, 0), (51, 1, 1, 0), (60, 1, 1, 0), (61, 0, 1, 0), (66, 0, 1, 5), (70, 0, 1, 9)]
        rows += [(71, 0, 0, 10), (99, 0, 0, 10), (100, 1, 1, 0), (105, 0, 1, 0), (110, 1, 1, 0), (112, 0, 1, 0)]
        rows += [(119, 0, 1, 7), (200, 0, 0, 10), (201, 1, 1, 0)]
        self.assert_kind("TOF", 10, rows)

    def test_before_it_was_ever_1(self):
        self.assert_kind("TOF", 10, [(0, 0, 0, 0), (5, 0, 0, 0), (10, 0, 0, 0), (1000, 0, 0, 0)])

    def test_1_in_the_first_scan(self):
        self.assert_kind("TOF", 10, [(100, 1, 1, 0), (105, 0, 1, 0), (114, 0, 1, 9), (115, 0, 0, 10)])

    def test_a_duration_of_0(self):
        self.assert_kind("TOF", 0, [(5, 0, 0, 0), (6, 1, 1, 0), (7, 1, 1, 0), (7, 0, 0, 0), (8, 0, 0, 0), (8, 1, 1, 0)])


class Pulse(TimerCase):
    def test_a_result_that_stays_1_behind_a_pulse(self):
        rows = [(0, 0, 0, 0), (3, 1, 1, 0), (8, 1, 1, 5), (12, 1, 1, 9), (13, 1, 0, 10), (50, 1, 0, 10), (51, 0, 0, 0)]
        self.assert_kind("TP", 10, rows + [(52, 0, 0, 0), (53, 1, 1, 0), (99, 1, 0, 10), (100, 0, 0, 0)])

    def test_a_result_that_changes_within_a_pulse(self):
        rows = [(52, 1, 1, 0), (54, 0, 1, 2), (56, 1, 1, 4), (58, 0, 1, 6), (61, 0, 1, 9), (62, 0, 0, 0), (63, 0, 0, 0)]
        self.assert_kind("TP", 10, rows + [(63, 1, 1, 0), (64, 0, 1, 1)])

    def test_a_pulse_that_is_over_only_now_keeps_another_from_beginning(self):
        for over in (73, 90):
            rows = [(63, 1, 1, 0), (64, 0, 1, 1), (over, 1, 0, 10), (91, 1, 0, 10), (91, 0, 0, 0), (91, 1, 1, 0)]
            self.assert_kind("TP", 10, rows)

    def test_a_pulse_that_was_over_does_not(self):
        self.assert_kind("TP", 10, [(0, 1, 1, 0), (5, 0, 1, 5), (10, 0, 0, 0), (10, 1, 1, 0), (19, 1, 1, 9), (20, 1, 0, 10)])

    def test_a_duration_of_0(self):
        self.assert_kind("TP", 0, [(5, 0, 0, 0), (6, 1, 0, 0), (7, 1, 0, 0), (7, 0, 0, 0), (8, 1, 0, 0), (9, 0, 0, 0)])


class Times(TimerCase):
    def test_times_that_stay_the_same(self):
        self.assert_kind("TON", 2, [(9, 1, 0, 0), (9, 1, 0, 0), (10, 1, 0, 1), (10, 1, 0, 1), (11, 1, 1, 2), (11, 1, 1, 2)])
        self.assert_kind("TOF", 2, [(9, 1, 1, 0), (9, 0, 1, 0), (9, 0, 1, 0), (10, 0, 1, 1), (11, 0, 0, 2), (11, 0, 0, 2)])
        self.assert_kind("TP", 2, [(9, 1, 1, 0), (9, 1, 1, 0), (9, 0, 1, 0), (10, 0, 1, 1), (10, 1, 1, 1), (11, 1, 0, 2)])

    def test_the_longest_duration(self):
        start = LAST - GREATEST
        self.assert_kind("TON", GREATEST, [(start, 1, 0, 0), (LAST - 1, 1, 0, GREATEST - 1), (LAST, 1, 1, GREATEST)])
        rows = [(0, 1, 1, 0), (start, 0, 1, 0), (LAST - 1, 0, 1, GREATEST - 1), (LAST, 0, 0, GREATEST)]
        self.assert_kind("TOF", GREATEST, rows)
        self.assert_kind("TP", GREATEST, [(start, 1, 1, 0), (LAST - 1, 1, 1, GREATEST - 1), (LAST, 1, 0, GREATEST)])

    def test_the_latest_time(self):
        self.assert_kind("TON", GREATEST, [(0, 1, 0, 0), (LAST, 1, 1, GREATEST)])
        self.assert_kind("TOF", GREATEST, [(0, 1, 1, 0), (0, 0, 1, 0), (LAST, 0, 0, GREATEST)])
        self.assert_kind("TP", GREATEST, [(0, 1, 1, 0), (LAST, 1, 0, GREATEST), (LAST, 0, 0, 0)])
        self.assert_kind("TON", 1, [(LAST - 1, 1, 0, 0), (LAST, 1, 1, 1)])
        self.assert_kind("TON", 1, [(LAST, 1, 0, 0), (LAST, 1, 0, 0)])


class NotInEachScan(TimerCase):
    def test_ton(self):
        self.assert_rows(10, [(0, "TON", 1, 0, 0), (5, None, 0, 0, 0), (9, None, 1, 0, 0), (12, "TON", 1, 1, 10)])
        self.assert_rows(10, [(0, "TON", 1, 0, 0), (3, "TON", 1, 0, 3), (5, None, 0, 0, 3), (7, "TON", 1, 0, 7)])
        self.assert_rows(10, [(0, "TON", 1, 0, 0), (12, "TON", 1, 1, 10), (13, None, 0, 1, 10), (14, "TON", 0, 0, 0)])

    def test_tof(self):
        rows = [(0, "TOF", 1, 1, 0), (5, None, 0, 1, 0), (20, "TOF", 0, 1, 0), (25, None, 0, 1, 0), (30, "TOF", 0, 0, 10)]
        self.assert_rows(10, rows)

    def test_tp(self):
        rows = [(0, "TP", 1, 1, 0), (20, None, 0, 1, 0), (25, "TP", 1, 0, 10), (26, None, 0, 0, 10), (27, "TP", 1, 0, 10)]
        self.assert_rows(10, rows + [(30, "TP", 0, 0, 0)])


class UnlikeKinds(TimerCase):
    def test_ton_and_tof(self):
        rows = [
            (0, "TON", 1, 0, 0),
            (4, "TON", 1, 0, 4),
            # It became 0 here, but hasn't run as a TOF.
            (6, "TOF", 0, 0, 0),
            (7, "TOF", 1, 1, 0),
            # A TON of 0 leaves since when it is, at 6, and that it has run.
            (9, "TON", 0, 0, 0),
            (12, "TOF", 0, 1, 6),
            (20, "TOF", 0, 0, 10),
            (21, "TON", 1, 0, 0),
            (25, "TOF", 1, 1, 0),
            # The result was 1 at the last use, so it goes on since 21.
            (26, "TON", 1, 0, 5),
            (31, "TON", 1, 1, 10),
            (32, "TOF", 0, 1, 0),
            (41, "TOF", 0, 1, 9),
        ]
        self.assert_rows(10, rows)

    def test_a_tof_that_was_1_at_first(self):
        # Since when is 0 at first, and a TOF of 1 leaves it.
        self.assert_rows(10, [(3, "TOF", 1, 1, 0), (4, "TON", 1, 0, 4), (10, "TON", 1, 1, 10)])

    def test_tp_behind_ton(self):
        # T is 1, so TP goes on since then; it's over, and hasn't run any more.
        rows = [(0, "TOF", 1, 1, 0), (1, "TON", 0, 0, 0), (21, "TON", 1, 0, 0), (31, "TON", 1, 1, 10)]
        rows += [(32, "TP", 1, 0, 10), (33, "TOF", 0, 0, 0), (34, "TOF", 0, 0, 0)]
        self.assert_rows(10, rows)

    def test_tp_without_a_pulse_keeps_the_time(self):
        rows = [(51, "TON", 1, 0, 0), (55, "TON", 1, 0, 4), (56, "TP", 1, 0, 4), (58, "TON", 1, 0, 7), (59, "TP", 0, 0, 0)]
        self.assert_rows(10, rows)

    def test_tp_without_a_pulse_has_not_run(self):
        rows = [(0, "TOF", 1, 1, 0), (1, "TOF", 0, 1, 0), (11, "TOF", 0, 0, 10), (12, "TP", 0, 0, 0), (13, "TOF", 0, 0, 0)]
        self.assert_rows(10, rows)
        # Without the TP it has.
        self.assert_rows(10, rows[:3] + [(13, "TOF", 0, 0, 10)])

    def test_tof_behind_tp(self):
        rows = [
            (34, "TP", 1, 1, 0),
            # A pulse has run: so TOF goes on, since now.
            (36, "TOF", 0, 1, 0),
            (40, "TP", 0, 1, 4),
            (45, "TOF", 0, 1, 9),
            (46, "TP", 0, 0, 0),
            # It's over, and hasn't run.
            (50, "TOF", 0, 0, 0),
        ]
        self.assert_rows(10, rows)

    def test_tp_behind_tof(self):
        # T is 1 by TOF: none begins, and since when is 0 still.
        self.assert_rows(10, [(4, "TOF", 1, 1, 0), (5, "TP", 1, 1, 5), (9, "TP", 0, 1, 9), (10, "TP", 1, 0, 10)])

    def test_ton_within_a_pulse(self):
        rows = [(0, "TP", 1, 1, 0), (4, "TON", 1, 0, 4), (5, "TP", 1, 0, 4), (6, "TP", 0, 0, 0), (7, "TP", 1, 1, 0)]
        self.assert_rows(10, rows)


class Several(RunCase):
    def test_of_one_timer_in_one_scan(self):
        # The second sees that the result was 1, the first that it was 0: so each scan begins anew.
        text = "LD TRUE\nTON T0 5\nST Q0\nLD FALSE\nTON T0 5\nST Q1\nLD TRUE\nTON T0 0\nST Q2\nLD FALSE\nTON T0 0\n"
        self.assert_outputs([4, 4, 4], text, [0] * 3, [0, 10, 20])

    def test_of_one_timer_with_unlike_durations(self):
        text = "LD I0\nTON T0 5\nST Q0\nLD E0\nST W0\nLD I0\nTON T0 20\nST Q1\nLD T0\nST Q2\nLD E0\nST W1\n"
        for scans, outputs, times in ((1, 0, [0, 0]), (2, 1, [5, 9]), (3, 1, [5, 19]), (4, 7, [5, 20]), (5, 0, [0, 0])):
            ran = self.assert_ends([0, scans, 0], text, [1, 1, 1, 1, 0][:scans], [0, 9, 19, 20, 21][:scans])
            self.assertEqual((outputs, times), (ran.outputs[-1], ran.words[:2]))

    def test_of_unlike_kinds_in_one_scan(self):
        # TOF's T of 1 keeps a pulse from beginning; since when is 0.
        text = "LD TRUE\nTOF T0 5\nST Q0\nLD TRUE\nTP T0 5\nST Q1\nLD E0\nST W0\n"
        ran = self.assert_ends([0, 2, 0], text, [0, 0], [4, 5])
        self.assertEqual(([3, 1], 5), (ran.outputs, ran.words[0]))

    def test_timers_are_apart(self):
        text = "LD I0\nTON T0 5\nST Q0\nLD I1\nTON T31 7\nST Q1\nLD T0\nST Q2\nLD T31\nST Q3\nLD E31\nST W0\nLD E0\nST W1\n"
        ran = self.assert_ends([0, 5, 0], text, [1, 3, 3, 3, 2], [0, 4, 5, 11, 12])
        self.assertEqual(([0, 0, 5, 15, 10], [7, 0]), (ran.outputs, ran.words[:2]))

    def test_the_bit_is_seen_ahead_of_the_timer_as_it_was(self):
        self.assert_outputs([0, 0, 1, 1, 0], "LD T7\nST Q0\nLD I0\nTON T7 5\n", [1, 1, 1, 0, 0], [0, 5, 6, 7, 8])

    def test_a_time_is_a_word(self):
        self.assert_ends([1, 0, 2], "LD E0\nNOT\n")
        self.assert_ends([1, 0, 2], "LD T0\nADD 1\n")

    def test_each_number(self):
        for number in range(32):
            text = f"LD TRUE\nTON T{number} 9\nLD E{number}\nST W0\nLD T{number}\nST Q0\n"
            ran = self.assert_ends([0, 3, 0], text, [0] * 3, [1, 9, 10])
            self.assertEqual(([0, 0, 1], 9), (ran.outputs, ran.words[0]))


if __name__ == "__main__":
    unittest.main()
