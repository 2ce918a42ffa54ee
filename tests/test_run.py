"""Promise 4: pd_run and pd_why."""

import unittest

from tests.calls import CLEAR, GREATEST, LEAST, RunCase, WHY, ask, get, load_words, run, set_to

HALT, WAIT, RTI = 0o000000, 0o000001, 0o000002
INC_R0 = 0o005200
BRANCH_TO_ITSELF = 0o000777
NONE = 0o000007
TST_AT_R1 = 0o005711


class CountTest(unittest.TestCase):
    def test_n_instructions_are_done(self):
        program = [load_words(0, [INC_R0] * 20)]
        for n in (0, 1, 2, 19, 20):
            self.assertEqual(ask(*program, run(n), WHY, get(0), get(7))[1:], [[n], [0], [n], [2 * n]])

    def test_a_run_goes_on_where_the_last_one_ended(self):
        parts = ask(load_words(0, [INC_R0] * 20), run(3), run(0), run(4), get(0), get(7), WHY)
        self.assertEqual(parts[1:], [[3], [0], [4], [7], [14], [0]])

    def test_1000000(self):
        parts = ask(load_words(0o100, [BRANCH_TO_ITSELF]), set_to(7, 0o100), run(1000000), WHY, get(7))
        self.assertEqual(parts[2:], [[1000000], [0], [0o100]])

    def test_1000000_that_end_early(self):
        self.assertEqual(ask(load_words(0, [INC_R0] * 7 + [HALT]), run(1000000), WHY, get(0)), [[0], [8], [1], [7]])

    def test_0_behind_each_end_says_all_were_done(self):
        for word, why in ((HALT, 1), (WAIT, 2), (NONE, 3)):
            parts = ask(load_words(0, [word]), run(5), WHY, run(0), WHY)
            self.assertEqual(parts[2:], [[why], [0], [0]])
        self.assertEqual(ask(set_to(7, 1), run(0), WHY, get(7)), [[0], [0], [0], [1]])


class RefusalTest(unittest.TestCase):
    WRONG = (-1, 1000001, -2, -1000000, 1000002, 1073741824, LEAST, GREATEST)

    def test_n_out_of_range(self):
        for n in self.WRONG:
            with self.subTest(n=n):
                parts = ask(load_words(0, [INC_R0] * 5), run(n), get(0), get(7), WHY)
                self.assertEqual(parts[1:], [[-1], [0], [0], [0]])

    def test_a_refused_run_leaves_why_as_it_was(self):
        ends = [([HALT], 0, 1), ([WAIT], 0, 2), ([NONE], 0, 3), ([HALT], 1, 4), ([BRANCH_TO_ITSELF], 0, 0)]
        for n in self.WRONG:
            for words, pc, why in ends:
                with self.subTest(n=n, why=why):
                    parts = ask(load_words(0, words), set_to(7, pc), run(5), WHY, run(n), WHY, get(7))
                    self.assertEqual(parts[3], [why])
                    self.assertEqual(parts[4:6], [[-1], [why]])


class HaltAndWaitTest(RunCase):
    def test_it_is_done_and_ends_the_run(self):
        for word, why in ((HALT, 1), (WAIT, 2)):
            self.assert_run([word], n=5, done=1, why=why)
            self.assert_run([INC_R0, INC_R0, word], n=9, then={0: 0o2002}, done=3, why=why)

    def test_the_last_of_n(self):
        for word, why in ((HALT, 1), (WAIT, 2)):
            self.assert_run([word], n=1, why=why)
            self.assert_run([INC_R0, word], n=2, then={0: 0o2001}, why=why)

    def test_just_behind_the_last_of_n(self):
        for word in (HALT, WAIT):
            self.assert_run([INC_R0, word], n=1, then={0: 0o2001}, pc=0o1002)

    def test_the_next_run_goes_on_behind_it(self):
        for word, why in ((HALT, 1), (WAIT, 2)):
            parts = ask(load_words(0, [word, INC_R0, INC_R0]), run(5), run(2), WHY, get(0), get(7))
            self.assertEqual(parts[1:], [[1], [2], [0], [2], [6]])

    def test_flags_stay(self):
        for word, why in ((HALT, 1), (WAIT, 2)):
            self.assert_run([word], flags="NZVC", priority=5, done=1, why=why)


class CanNotBeDoneTest(RunCase):
    def test_no_instruction(self):
        self.assert_no_instruction([NONE], priority=3)
        self.assert_run([INC_R0, INC_R0, NONE], n=9, then={0: 0o2002}, pc=0o1004, done=2, why=3)

    def test_no_instruction_again(self):
        parts = ask(load_words(0, [INC_R0, NONE]), run(9), WHY, run(9), WHY, get(7))
        self.assertEqual(parts[1:], [[1], [3], [0], [3], [2]])

    def test_an_odd_place(self):
        self.assert_odd([TST_AT_R1], registers={1: 0o2001}, priority=3)
        self.assert_run([INC_R0, TST_AT_R1], registers={1: 0o2001}, n=9, then={0: 0o2001}, pc=0o1002, done=1, why=4)

    def test_an_odd_place_again(self):
        parts = ask(load_words(0, [INC_R0, TST_AT_R1]), set_to(1, 5), run(9), WHY, run(9), WHY, get(7))
        self.assertEqual(parts[2:], [[1], [4], [0], [4], [2]])

    def test_just_behind_the_last_of_n(self):
        for word in (NONE, TST_AT_R1):
            self.assert_run([INC_R0, word], registers={1: 1}, n=1, then={0: 0o2001}, pc=0o1002)

    def test_pc_odd(self):
        for pc in (1, 0o1001, 65535):
            self.assert_stays([INC_R0] * 4, 4, registers={7: pc})
            self.assert_stays([NONE] * 4, 4, registers={7: pc})

    def test_pc_becomes_odd(self):
        # MOV R1, PC is done; what can't be is the one behind it.
        self.assert_run([0o010107], registers={1: 0o1003}, n=5, pc=0o1003, done=1, why=4)


class UndoneTest(RunCase):
    """Where an odd place comes late, what the instruction did before is taken back."""

    def test_a_register_that_was_stepped(self):
        self.assert_odd([0o012122], registers={2: 0o2201})     # MOV (R1)+, (R2)+
        self.assert_odd([0o014142], registers={2: 0o2201})     # MOV -(R1), -(R2)
        self.assert_odd([0o012127], registers={7: 0o1001})
        self.assert_odd([0o013100], memory={0o2100: 0o3001})   # MOV @(R1)+, R0
        self.assert_odd([0o015100], memory={0o2076: 0o3001})   # MOV @-(R1), R0
        self.assert_odd([0o005021], registers={1: 0o2101})     # CLR (R1)+
        self.assert_odd([0o005041], registers={1: 0o2101})     # CLR -(R1)
        self.assert_odd([0o012113], registers={3: 1})          # MOV (R1)+, (R3)
        self.assert_odd([0o112133], registers={3: 1})          # MOVB (R1)+, @(R3)+
        self.assert_odd([0o005726], registers={6: 1})          # TST (SP)+

    def test_words_behind_the_instruction(self):
        self.assert_odd([0o016162, 2, 1])                      # MOV 2(R1), 1(R2)
        self.assert_odd([0o012737, 5, 0o2001])                 # MOV #5, @#2001
        self.assert_odd([0o005067, 1])                         # CLR, counted from PC

    def test_a_push(self):
        self.assert_odd([0o004737, 0o2000], registers={6: 0o3001})   # JSR PC, @#2000
        self.assert_odd([0o004737, 0o2001])                          # JSR PC, @#2001
        self.assert_odd([0o004121], registers={1: 0o2101})           # JSR R1, (R1)+
        for word in (0o000003, 0o000004, 0o104000, 0o104400):
            vectors = {place: 0o4000 for place in range(0o14, 0o40, 2)}
            self.assert_odd([word], registers={6: 0o3001}, memory=vectors, priority=2)

    def test_a_pull(self):
        for word in (RTI, 0o000006, 0o000205, 0o000207, 0o000200):
            self.assert_odd([word], registers={6: 0o3001}, priority=2)
        # RTS SP: PC becomes 3001, then there's nothing to pull.
        self.assert_odd([0o000206], registers={6: 0o3001})

    def test_every_instruction_on_words_at_an_odd_place(self):
        firsts = [0o010000, 0o020000, 0o030000, 0o040000, 0o050000, 0o060000, 0o160000]
        ones = [0o005000 + 0o100 * k for k in range(12)] + [0o000300, 0o006700]
        with_r = [0o070000, 0o070100, 0o071000, 0o072000, 0o072100, 0o073000, 0o074000]
        around = {at: 0o377 for at in range(0o2376, 0o2406)}
        for way in (1, 2, 4):
            operand = way * 8 + 4
            for word in firsts + ones + with_r:
                with self.subTest(word=oct(word + operand)):
                    self.assert_odd([word + operand], registers={4: 0o2401}, small=around)
            for word in firsts:
                with self.subTest(word=oct(word + operand * 64)):
                    self.assert_odd([word + operand * 64], registers={4: 0o2401})


class PlaceTest(RunCase):
    def test_pc_goes_from_65534_to_0(self):
        self.assert_run([INC_R0], at=65534, then={0: 0o2001}, pc=0)
        self.assert_run([INC_R0, INC_R0, INC_R0], at=65532, n=3, then={0: 0o2003}, pc=2)

    def test_a_word_more_goes_from_65534_to_0(self):
        self.assert_run([0o012700, 0o1234], at=65534, then={0: 0o1234}, pc=2)           # MOV #1234, R0
        self.assert_run([0o012700, 0o1234], at=65532, then={0: 0o1234}, pc=0)


class WhyTest(unittest.TestCase):
    def test_behind_clear(self):
        self.assertEqual(ask(WHY), [[0]])

    def test_each_end_and_a_clear_behind_it(self):
        ends = [([INC_R0] * 5, 0, 0), ([HALT], 0, 1), ([WAIT], 0, 2), ([NONE], 0, 3), ([HALT], 1, 4)]
        for words, pc, why in ends:
            with self.subTest(why=why):
                parts = ask(load_words(0, words), set_to(7, pc), run(5), WHY, WHY, CLEAR, WHY)
                self.assertEqual(parts[3:], [[why], [why], [0], [0]])

    def test_each_end_behind_each_other(self):
        programs = [(0o100, [INC_R0] * 3), (0o200, [HALT]), (0o300, [WAIT]), (0o400, [NONE]), (0o501, [HALT])]
        loading = [load_words(at & 0o777776, words) for at, words in programs]
        for first, a in enumerate(programs):
            for second, b in enumerate(programs):
                parts = ask(*loading, set_to(7, a[0]), run(3), WHY, set_to(7, b[0]), run(3), WHY)
                self.assertEqual((parts[7], parts[10]), ([first], [second]))

    def test_other_calls_leave_it(self):
        parts = ask(run(1), WHY, set_to(0, 5), get(0), load_words(0, [5]), [3, 0, 0], [8, 0, 7], [8, 1, 7], WHY)
        self.assertEqual((parts[1], parts[-1]), ([1], [1]))


if __name__ == "__main__":
    unittest.main()
