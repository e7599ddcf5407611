"""Where a scan goes on, where it's over, and how many instructions it may have."""

import unittest

from helper import RunCase

# Gone through as often as W0 says.
LOOP = "a: LD W0\nSUB 1\nST W0\nGT 0\nJMPC a\n"


class Jumps(RunCase):
    def test_forward(self):
        self.assert_outputs([5], "LD TRUE\nST Q0\nJMP a\nST Q1\na: ST Q2\n")
        self.assert_outputs([1, 3], "LD TRUE\nST Q0\nLDN I0\nJMPC a\nS Q1\nLD TRUE\nS Q1\na:\n", [0, 1])
        self.assert_outputs([1, 3], "LD TRUE\nST Q0\nLD I0\nJMPCN a\nST Q1\na:\n", [0, 1])

    def test_backward(self):
        ran = self.assert_ends([0, 1, 0], LOOP + "LD 7\nST W1\n", words={0: 50})
        self.assertEqual([0, 7], ran.words[:2])

    def test_whether_it_is_1_or_0(self):
        for name, taken in (("JMP", (1, 1)), ("JMPC", (0, 1)), ("JMPCN", (1, 0))):
            text = f"LD I0\n{name} a\nLD TRUE\nST Q0\nRET\na: LD TRUE\nST Q1\n"
            for bit in (0, 1):
                self.assert_outputs([2 if taken[bit] else 1], text, [bit])

    def test_to_a_label_behind_the_last_instruction(self):
        for tail in ("a:", "a:\n", "\n\na:\n\n", "a:\nb:\n; end"):
            for name in ("JMP", "JMPC"):
                self.assert_outputs([1], f"LD TRUE\nST Q0\n{name} a\nST Q1\n{tail}")

    def test_to_a_label_of_its_own_line(self):
        self.assert_error(4, 1, "a: JMP a\n")
        self.assert_error(4, 2, "LD TRUE\na: JMPC a\n")
        self.assert_error(4, 2, "LD FALSE\na: JMPCN a\n")
        self.assert_outputs([1], "LD FALSE\na: JMPC a\nLD TRUE\nST Q0\n")
        self.assert_outputs([1], "LD TRUE\na: JMPCN a\nST Q0\n")

    def test_the_instruction_beside_the_label_is_done(self):
        self.assert_outputs([1], "LD FALSE\nJMP a\nNOT\na: NOT\nST Q0\n")

    def test_labels_one_behind_another(self):
        for name in "abc":
            self.assert_outputs([2], f"LD TRUE\nJMP {name}\nST Q0\na:\n\nb:\n; here\nc: ST Q1\n")

    def test_the_result_stays(self):
        self.assert_word(5, "LD 5\nJMP a\nb: JMP c\na: JMP b\nc:")
        self.assert_bit(1, "LD TRUE\nJMPC a\na:\nJMPCN b\nb:")

    def test_labels_that_are_called_like_instructions(self):
        self.assert_outputs([1], "LD TRUE\nJMP NOT\nRET: JMP LD\nNOT: JMP RET\nNOT\nLD: ST Q0\n")

    def test_names_in_many_lines(self):
        text = "LD TRUE\nJMP a1000\n" + "".join(f"a{number}: ST Q{number % 2}\n" for number in range(1001))
        self.assert_outputs([1], text)


class Returns(RunCase):
    def test_ret_in_midst_of_a_program(self):
        self.assert_outputs([1, 1], "LD TRUE\nST Q0\nRET\nST Q1\na:\nST Q2\n", [0, 0])

    def test_ret_by_itself(self):
        self.assert_outputs([0, 0], "RET\n", [0, 0])
        self.assert_outputs([0, 0], "RET\nNOT\n", [0, 0])

    def test_retc_if_it_is_1(self):
        self.assert_outputs([2, 1, 2], "LD I0\nST Q0\nR Q1\nRETC\nLD TRUE\nST Q1\n", [0, 1, 0])

    def test_the_next_scan_begins_anew(self):
        ran = self.assert_ends([0, 3, 0], "LD W0\nADD 1\nST W0\nLD I0\nRETC\nLD W1\nADD 1\nST W1\n", [1, 0, 1])
        self.assertEqual([3, 1], ran.words[:2])

    def test_behind_a_jump(self):
        self.assert_outputs([2], "LD TRUE\nJMP a\nb: ST Q1\nRET\na: JMP b\nST Q0\n")


class HowMany(RunCase):
    # 25 turns of 4000 instructions: 100000 in all.
    def looped(self, behind):
        return "a: " + "LD TRUE\n" * 3995 + "LD W0\nADD 1\nST W0\nLT 25\nJMPC a\n" + behind

    def test_100000_are_done(self):
        ran = self.assert_ends([0, 1, 0], self.looped("b:\n; end\n"))
        self.assertEqual(25, ran.words[0])

    def test_the_100001st_is_an_error(self):
        for row in ("LD TRUE", "ST Q0", "NOT", "RET", "RETC", "JMP end", "JMPC end", "AND I0", "ADD 1", "UP M0"):
            ran = self.assert_ends([4, 0, 4002], self.looped(f"\n{row}\nend:\n"))
            self.assertEqual(([], 0), (ran.outputs, ran.words[0]))

    def test_the_line_of_the_100001st(self):
        for ahead in range(5):
            self.assert_error(4, 1 + ahead, "LD TRUE\n" * ahead + "a: JMP a\nNOT\n")
        turn = "a: LD I0\nNOT\n\n; here\nb:\nJMP a\n"
        # 33333 turns and one more instruction are 100000.
        self.assert_error(4, 2, turn)
        self.assert_error(4, 2, "LD I0\n" + turn)
        self.assert_error(4, 8, "LD I0\nNOT\n" + turn)

    def test_labels_do_not_count(self):
        labels = "".join(f"l{number}:\n" for number in range(100))
        text = "a: " + "LD TRUE\n" * 3995 + labels + "LD W0\nADD 1\nST W0\nLT 25\nJMPC a\n"
        self.assert_ends([0, 1, 0], text + "end:\n")
        self.assert_ends([4, 0, 4101], text + "NOT\n")

    def test_what_is_put_off_and_its_closing_line_count_each(self):
        turn = "a: " + "LD TRUE\n" * 3993 + "AND ( TRUE\n)\nLD W0\nADD 1\nST W0\nLT 25\nJMPC a\n"
        self.assert_ends([0, 1, 0], turn)
        self.assert_ends([4, 0, 4001], turn + "NOT\n")

    def test_a_closing_line_as_the_100001st(self):
        text = "a: " + "LD TRUE\n" * 3994 + "LD W0\nADD 1\nST W0\nLT 25\nJMPC a\n" + "LD TRUE\n" * 23
        # 25 turns of 3999 and 23 more are 99998.
        self.assert_ends([0, 1, 0], text + "AND ( TRUE\n)\n")
        self.assert_ends([4, 0, 4025], text + "NOT\nAND ( TRUE\n)\n")
        self.assert_ends([4, 0, 4025], text + "NOT\nNOT\nAND ( TRUE\n)\n")

    def test_each_scan_has_its_own(self):
        text = "LD 0\nST W0\n" + "a: " + "LD TRUE\n" * 3990 + "LD W0\nADD 1\nST W0\nLT 25\nJMPC a\n"
        self.assert_outputs([0, 0, 0], text, [0, 0, 0])

    def test_an_error_at_the_100000th_is_its_own(self):
        text = "a: " + "LD TRUE\n" * 3994 + "LD W0\nADD 1\nST W0\nLT 25\nJMPC a\n" + "LD TRUE\n" * 24
        self.assert_ends([1, 0, 4024], text + "ADD 1\nADD 1\n")
        self.assert_ends([4, 0, 4025], text + "LD 1\nNOT\n")


if __name__ == "__main__":
    unittest.main()
