"""Which words are instructions and which are none: every word there is."""

import unittest

from tests.calls import ALL_REGISTERS, RunCase, START, USUAL, WHY, ask, get, load_words, look, run, set_to

# From and up to, as the document lists them.
INSTRUCTIONS = [
    (0o000000, 0o000006), (0o000110, 0o000177), (0o000200, 0o000207), (0o000240, 0o000277), (0o000300, 0o000377),
    (0o000400, 0o003777), (0o005000, 0o006377), (0o006400, 0o006477), (0o006700, 0o006777), (0o010000, 0o067777),
    (0o070000, 0o070777), (0o072000, 0o072777), (0o074000, 0o074777), (0o077000, 0o077777), (0o100000, 0o103777),
    (0o104000, 0o104777), (0o105000, 0o106377), (0o110000, 0o167777),
] + [(0o004010 + r * 64, 0o004077 + r * 64) for r in range(8)] \
  + [(first + r * 64, first + r * 64 + 63) for first in (0o071000, 0o073000) for r in (0, 2, 4, 6)]

ALLOWED = {word for first, last in INSTRUCTIONS for word in range(first, last + 1)}
NONE = [word for word in range(65536) if word not in ALLOWED]


class EveryWordTest(unittest.TestCase):
    SETTING = [set_to(which, value) for which, value in enumerate(USUAL + (START, 0o252))]

    def test_no_instruction(self):
        for k in range(0, len(NONE), 120):
            words = NONE[k:k + 120]
            steps = [call for word in words for call in (load_words(START, [word]), run(5), WHY)]
            parts = ask(*self.SETTING, *steps, *ALL_REGISTERS, look(0, 2000))[9:]
            self.assertEqual(parts[:len(steps)], [[0], [0], [3]] * len(words), [oct(word) for word in words])
            registers = [part[0] for part in parts[len(steps):-1]]
            self.assertEqual(registers, list(USUAL) + [START, 0o252])
            memory = bytearray(2000)
            memory[START:START + 2] = words[-1].to_bytes(2, "little")
            self.assertEqual(bytes(parts[-1][1:]), bytes(memory))

    def test_instruction(self):
        words = sorted(ALLOWED)
        for k in range(0, len(words), 33):
            some = words[k:k + 33]
            steps = [call for word in some for call in self.SETTING + [load_words(START, [word]), run(1), WHY]]
            parts = ask(*steps)
            for place, word in enumerate(some):
                done, why = parts[place * 12 + 10][0], parts[place * 12 + 11][0]
                self.assertIn((done, why), ((1, 0), (1, 1), (1, 2), (0, 4)), oct(word))


class SomeWordsTest(RunCase):
    def test_between_those_that_are_listed(self):
        for word in (0o000007, 0o000010, 0o000077, 0o000210, 0o000227, 0o000230, 0o000237, 0o006500, 0o006577,
                     0o006600, 0o006677, 0o007000, 0o007777, 0o075000, 0o075777, 0o076000, 0o076777):
            with self.subTest(word=oct(word)):
                self.assert_no_instruction([word, 0o2000, 0o2000], priority=5)

    def test_the_highest_bit_where_there_is_no_such_instruction(self):
        for word in (0o106400, 0o106477, 0o106500, 0o106600, 0o106700, 0o106777, 0o107000, 0o107777, 0o170000,
                     0o171000, 0o172000, 0o173000, 0o174000, 0o177000, 0o177777):
            with self.subTest(word=oct(word)):
                self.assert_no_instruction([word, 0o2000, 0o2000], priority=5)

    def test_a_register_where_there_is_none(self):
        for word in (0o000100, 0o000107, 0o004000, 0o004707):
            self.assert_no_instruction([word], priority=5)

    def test_an_odd_number(self):
        for word in (0o071100, 0o071327, 0o071577, 0o071737, 0o073100, 0o073327, 0o073577, 0o073737):
            self.assert_no_instruction([word, 0o2000], priority=5)

    def test_it_is_no_instruction_though_a_place_is_odd(self):
        self.assert_no_instruction([0o071112], registers={2: 1})
        self.assert_no_instruction([0o004701], registers={1: 1, 6: 1})
        self.assert_no_instruction([0o000101], registers={1: 1})

    def test_the_last_place(self):
        self.assert_no_instruction([0o000007], at=65534)

    def test_behind_others(self):
        parts = ask(load_words(0, [0o005200, 0o005200, 0o000007, 0o005200]), run(9), WHY, get(0), get(7))
        self.assertEqual(parts[1:], [[2], [3], [2], [4]])


if __name__ == "__main__":
    unittest.main()
