"""Promise 5: pd_interrupt."""

import unittest

from tests.calls import ALL_REGISTERS, GREATEST, LEAST, RunCase, WHY, ask, get, interrupt, load_words, look, run, set_to

WRONG_VECTORS = (-4, -1, -2, 1, 2, 3, 5, 6, 7, 506, 507, 509, 510, 511, 512, 516, 1024, 65536, LEAST, LEAST + 1,
                 GREATEST, GREATEST - 3)
WRONG_PRIORITIES = (-1, 8, -2, 9, 256, 65537, LEAST, GREATEST)


class InterruptCase(RunCase):
    def before(self, registers={}, flags=0, priority=0, memory={}):
        return self.lay_out([], 0o1000, registers, flags + priority * 32, memory, {})

    def assert_stays(self, vector, given, answer, **state):
        before = self.before(**state)
        answered, seen = self.go(before, interrupt(vector, given))
        self.assertEqual(answered, [answer])
        self.assert_seen(seen, before)


class TakenTest(InterruptCase):
    def test_the_vectors(self):
        for vector in (0, 4, 8, 64, 252, 256, 504, 508):
            for flags, priority in ((0, 0), (0o17, 3), (0o12, 6)):
                with self.subTest(vector=vector, flags=flags):
                    vectors = {vector: 0o4000, vector + 2: 0o245}
                    before = self.before(flags=flags, priority=priority, memory=vectors)
                    answered, seen = self.go(before, interrupt(vector, 7))
                    self.assertEqual(answered, [1])
                    before.set_words({0o2776: flags + priority * 32, 0o2774: 0o1000})
                    before.registers[6], before.registers[7], before.status = 0o2774, 0o4000, 0o245
                    self.assert_seen(seen, before)

    def test_every_priority_against_every_other(self):
        for own in range(8):
            for given in range(8):
                with self.subTest(own=own, given=given):
                    calls = [load_words(8, [0o4000, 0o20]), set_to(6, 0o3000), set_to(8, own * 32), interrupt(8, given)]
                    parts = ask(*calls, get(6), get(7), get(8), look(0o2774, 4))
                    if given > own:
                        self.assertEqual(parts[3:], [[1], [0o2774], [0o4000], [0], [0, 0, 0, own * 32, 0]])
                    else:
                        self.assertEqual(parts[3:], [[0], [0o3000], [0], [own * 32], [0, 0, 0, 0, 0]])

    def test_other_bits_of_the_status_word_are_not_looked_at(self):
        parts = ask(load_words(4, [0o4000, 65535]), interrupt(4, 1), get(8), get(7))
        self.assertEqual(parts[1:], [[1], [0o357], [0o4000]])

    def test_pc_may_be_odd(self):
        # It's only pushed, or taken from the vector; that it's odd shows when it runs.
        parts = ask(load_words(4, [0o4001, 0]), set_to(6, 0o3000), set_to(7, 0o1001), interrupt(4, 1),
                    look(0o2774, 4), get(7), run(1), WHY)
        self.assertEqual(parts[3:], [[1], [0, 0o1, 0o2, 0, 0], [0o4001], [0], [4]])

    def test_the_stack_goes_round(self):
        parts = ask(load_words(4, [0o4000, 0]), set_to(7, 0o1234), set_to(8, 0o101), interrupt(4, 7), get(6),
                    look(65532, 4))
        self.assertEqual(parts[3:], [[1], [65532], [0, 0o234, 2, 0o101, 0]])
        parts = ask(load_words(4, [0o4000, 0]), set_to(6, 2), set_to(7, 0o1234), set_to(8, 0o101), interrupt(4, 7),
                    get(6), look(65534, 2), look(0, 2))
        self.assertEqual(parts[4:], [[1], [65534], [0, 0o234, 2], [0, 0o101, 0]])

    def test_pushed_before_the_vector_is_taken(self):
        parts = ask(load_words(16, [7, 7]), set_to(6, 20), set_to(7, 0o1234), set_to(8, 0o111), interrupt(16, 7),
                    *ALL_REGISTERS, look(16, 4))
        self.assertEqual(parts[4:], [[1]] + [[0]] * 6 + [[16], [0o1234], [0o111], [0, 0o234, 2, 0o111, 0]])

    def test_two_within_one_another_and_back(self):
        program = [load_words(4, [0o4000, 0o140]), load_words(8, [0o5000, 0o340]), load_words(0o4000, [0o005200, 2]),
                   load_words(0o5000, [0o005201, 2]), load_words(0o1000, [0o000777]), set_to(6, 0o3000),
                   set_to(7, 0o1000), set_to(8, 0o13)]
        parts = ask(*program, interrupt(4, 3), interrupt(4, 3), interrupt(8, 7), run(2), get(7), get(8), run(2),
                    *ALL_REGISTERS)
        self.assertEqual(parts[8:14], [[1], [0], [1], [2], [0o4000], [0o140]])
        self.assertEqual(parts[14:], [[2], [1], [1], [0], [0], [0], [0], [0o3000], [0o1000], [0o13]])

    def test_behind_a_wait(self):
        parts = ask(load_words(4, [0o4000, 0o340]), load_words(0o1000, [1, 0o005200, 0]), load_words(0o4000, [2]),
                    set_to(6, 0o3000), set_to(7, 0o1000), run(9), WHY, interrupt(4, 4), WHY, run(9), WHY, get(0))
        self.assertEqual(parts[5:], [[1], [2], [1], [2], [3], [1], [1]])


class RefusalTest(InterruptCase):
    def test_a_wrong_vector(self):
        for vector in WRONG_VECTORS:
            for given in (0, 3, 7):
                with self.subTest(vector=vector, given=given):
                    self.assert_stays(vector, given, -1, priority=2, flags=5, memory={4: 0o4000, 6: 0o340})

    def test_a_wrong_priority(self):
        for given in WRONG_PRIORITIES:
            for vector in (0, 4, 508):
                with self.subTest(vector=vector, given=given):
                    self.assert_stays(vector, given, -1, priority=2, flags=5, memory={4: 0o4000, 6: 0o340})

    def test_both_wrong(self):
        for vector in (-4, 2, 512, LEAST, GREATEST):
            for given in (-1, 8, LEAST, GREATEST):
                self.assert_stays(vector, given, -1)

    def test_not_above(self):
        for own in range(8):
            for given in range(own + 1):
                self.assert_stays(4, given, 0, priority=own, flags=10, memory={4: 0o4000, 6: 0o340})

    def test_the_stack_at_an_odd_place(self):
        for stack in (1, 0o3001, 65535):
            for vector in (0, 4, 508):
                self.assert_stays(vector, 7, -2, registers={6: stack}, flags=10, priority=6,
                                  memory={vector: 0o4000, vector + 2: 0o340})

    def test_which_comes_first(self):
        odd = {"registers": {6: 0o3001}}
        for vector, given in ((2, 0), (2, 7), (512, 7), (-4, 3), (4, 8), (4, -1)):
            self.assert_stays(vector, given, -1, priority=3, **odd)
        for given in range(4):
            self.assert_stays(4, given, 0, priority=3, **odd)
        for given in range(4, 8):
            self.assert_stays(4, given, -2, priority=3, **odd)

    def test_why_stays(self):
        ends = ((0o005200, 0), (0, 1), (1, 2), (7, 3))
        for word, why in ends:
            parts = ask(load_words(0o1000, [word]), set_to(7, 0o1000), run(1), interrupt(4, 7), WHY,
                        interrupt(2, 7), WHY, interrupt(4, 0), WHY, set_to(6, 1), interrupt(4, 7), WHY)
            self.assertEqual(parts[3:], [[1], [why], [-1], [why], [0], [why], [0], [-2], [why]])


if __name__ == "__main__":
    unittest.main()
