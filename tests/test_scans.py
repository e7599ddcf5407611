"""Ordinary programs over several scans, what comes in and goes out, and what is kept from scan to scan."""

import unittest

from helper import GREATEST, LEAST, SAMPLE, RunCase, words_with


class Ordinary(RunCase):
    def test_the_documents_program(self):
        inputs = [0, 1, 0, 0, 0, 0, 2, 0, 1, 3, 1, 1]
        times = [0, 100, 1000, 2599, 2600, 9000, 9001, 9002, 10000, 12000, 13000, 15500]
        outputs = [0, 0, 0, 0, 1, 1, 0, 0, 0, 0, 0, 1]
        ran = self.assert_ends([0, 12, 0], SAMPLE, inputs, times, {5: 1, 6: 3})
        self.assertEqual((outputs, words_with({5: 1 + 12 * 6, 6: 3})), (ran.outputs, ran.words))

    # TRUE is counted once: CTU never sees a 0 between.
    def test_the_documents_counter(self):
        for scans, counted in ((0, 0), (1, 1), (2, 1), (9, 1)):
            ran = self.ran(SAMPLE + "LD V1\nST W0\n", [1] * scans)
            self.assertEqual(counted, ran.words[0])

    def test_the_documents_error(self):
        ran = self.assert_ends([2, 2, 10], SAMPLE, [1, 1, 1, 1], [0, 2500, 2500, 2500], {5: GREATEST - 5, 6: 1})
        self.assertEqual(([0, 1], words_with({5: GREATEST - 1, 6: 1})), (ran.outputs, ran.words))
        self.assert_error(2, 9, SAMPLE, {5: 1, 6: 2**30})

    def test_a_light_that_a_button_turns_on_and_off(self):
        text = "LD I0\nUP M0\nST M1\nLD Q0\nXOR M1\nST Q0\n"
        self.assert_outputs([0, 1, 1, 1, 0, 0, 1, 1, 0], text, [0, 1, 1, 0, 1, 0, 1, 0, 1])

    def test_every_third_part_is_put_out(self):
        text = "LD I0\nCTU C0 3\nST Q0\nRC C0\n"
        self.assert_outputs([0, 0, 0, 0, 1, 0, 0, 0, 0, 0, 0, 1], text, [1, 0, 1, 0, 1, 1, 0, 1, 0, 1, 0, 1])

    def test_a_sum_by_a_loop(self):
        text = "LD 0\nST W1\nagain: LD W1\nADD W0\nST W1\nLD W0\nSUB 1\nST W0\nGT 0\nJMPC again\n"
        ran = self.assert_ends([0, 1, 0], text, words={0: 100})
        self.assertEqual(words_with({0: 0, 1: 5050}), ran.words)

    def test_a_lamp_that_blinks(self):
        text = "LDN T0\nTON T0 5\nUP M0\nST M1\nLD Q0\nXOR M1\nST Q0\n"
        times = [0, 4, 5, 6, 7, 10, 11, 12, 17]
        self.assert_outputs([0, 0, 1, 1, 1, 1, 1, 0, 0], text, [0] * 9, times)


class InAndOut(RunCase):
    def test_each_bit_goes_through(self):
        text = "".join(f"LD I{number}\nST Q{number}\n" for number in range(64))
        numbers = [1 << number for number in range(64)] + [0, 2**64 - 1, 2**63 + 1, 0x123456789ABCDEF0, 5, 0]
        self.assert_outputs(numbers, text, numbers)

    def test_the_lowest_and_the_highest(self):
        self.assert_outputs([1, 0, 0, 1, 1], "LD I0\nST Q0\n", [1, 2, 2**63, 2**63 + 1, 2**64 - 1])
        self.assert_outputs([0, 0, 1, 1, 1, 0], "LD I63\nST Q0\n", [1, 2, 2**63, 2**63 + 1, 2**64 - 1, 2**63 - 1])
        self.assert_outputs([2**63, 0, 0], "LD I0\nST Q63\n", [1, 2, 2**63])
        self.assert_outputs([0, 0, 2**63], "LD I63\nST Q63\n", [1, 2, 2**63])
        self.assert_outputs([2**64 - 1], "".join(f"LD TRUE\nST Q{number}\n" for number in range(64)))

    def test_each_word_is_loaded_and_stored(self):
        text = "".join(f"LD W{number}\nADD {number}\nST W{255 - number}\n" for number in range(128))
        words = {number: 1000 - number for number in range(256)}
        ran = self.assert_ends([0, 1, 0], text, words=words)
        self.assertEqual([1000 - number for number in range(128)] + [1000] * 128, ran.words)

    def test_words_that_are_not_stored_stay(self):
        words = {0: LEAST, 1: GREATEST, 254: -1, 255: LEAST}
        ran = self.assert_ends([0, 2, 0], "LD W0\nST W3\n", [0, 0], words=words)
        self.assertEqual(words_with({**words, 3: LEAST}), ran.words)


class Kept(RunCase):
    def test_outputs_and_marks_are_kept(self):
        self.assert_outputs([0, 1, 1, 1], "LD I0\nS Q0\n", [0, 1, 0, 0])
        self.assert_outputs([0, 0, 1, 1], "LD M255\nST Q0\nLD I0\nS M255\n", [0, 1, 0, 0])
        self.assert_outputs([2, 3, 1, 0], "LD Q1\nST Q0\nLD I0\nST Q1\n", [1, 1, 0, 0])

    def test_words_are_kept(self):
        ran = self.assert_ends([0, 5, 0], "LD W7\nMUL 3\nST W7\n", [0] * 5, words={7: -1})
        self.assertEqual(words_with({7: -243}), ran.words)

    def test_inputs_are_not(self):
        self.assert_outputs([1, 0, 1, 0], "LD I5\nST Q0\n", [32, 0, 32, 31])

    def test_at_first_all_is_0(self):
        bits = [f"{kind}{number}" for kind, size in (("Q", 64), ("M", 256), ("T", 32), ("C", 32)) for number in range(size)]
        self.assert_bit(0, "LD FALSE\n" + "".join(f"OR {bit}\n" for bit in bits))
        words = [f"{kind}{number}" for kind in "EV" for number in range(32)]
        self.assert_bit(1, "LD TRUE\n" + "".join(f"AND ( {word}\nEQ 0\n)\n" for word in words))

    # No program can ask for it ahead of its first LD in a later scan: it would have ended in the first one.
    def test_the_result_is_nothing_at_first(self):
        for row in ("NOT", "ST Q0", "ST W0", "JMPC end", "ADD 1", "AND ( I0\n)"):
            for load in ("LD TRUE", "LD 5"):
                ran = self.assert_ends([1, 0, 1], f"{row}\n{load}\nend:\n", [0, 0])
                self.assertEqual([], ran.outputs)


if __name__ == "__main__":
    unittest.main()
