"""Promise 3: pd_set and pd_get; and promise 1, as far as pd_get shows what pd_clear did."""

import unittest

from tests.calls import ALL_OF_MEMORY, ALL_REGISTERS, CLEAR, GREATEST, LEAST, WHY, ask, get, load, run, set_to

VALUES = [
    (0, 0), (1, 1), (32767, 32767), (32768, 32768), (65535, 65535), (65536, 0), (65537, 1), (131071, 65535),
    (-1, 65535), (-2, 65534), (-32768, 32768), (-65535, 1), (-65536, 0), (-65537, 65535),
    (LEAST, 0), (LEAST + 1, 1), (GREATEST, 65535), (GREATEST - 1, 65534),
]

WRONG = (-1, -2, -8, -9, 9, 10, 16, 65536, 65544, LEAST, LEAST + 8, GREATEST)

# The status word has no other bits than these.
STATUS_BITS = 0o357


def all_of(values):
    return [[value] for value in values]


class GetTest(unittest.TestCase):
    def test_all_0_behind_clear(self):
        self.assertEqual(ask(*ALL_REGISTERS), all_of([0] * 9))

    def test_all_0_behind_another_clear(self):
        setting = [set_to(which, 65535) for which in range(9)]
        self.assertEqual(ask(*setting, CLEAR, *ALL_REGISTERS), all_of([0] * 19))

    def test_none_there(self):
        setting = [set_to(which, which + 1) for which in range(9)]
        for which in WRONG:
            with self.subTest(which=which):
                self.assertEqual(ask(*setting, get(which))[-1], [-1])

    def test_getting_changes_nothing(self):
        setting = [set_to(which, 100 + which) for which in range(8)] + [set_to(8, 0o105)]
        asked = ALL_REGISTERS + [get(-1), get(9)] + ALL_REGISTERS
        words = [100, 101, 102, 103, 104, 105, 106, 107, 0o105]
        self.assertEqual(ask(*setting, *asked)[9:], all_of(words + [-1, -1] + words))


class SetTest(unittest.TestCase):
    def test_the_register_alone_becomes_the_value_modulo_65536(self):
        for which in range(8):
            for value, word in VALUES:
                with self.subTest(which=which, value=value):
                    expected = [0] * 9
                    expected[which] = word
                    self.assertEqual(ask(set_to(which, value), *ALL_REGISTERS), all_of([0] + expected))

    def test_the_status_word_alone_becomes_the_value(self):
        for value, word in VALUES:
            with self.subTest(value=value):
                self.assertEqual(ask(set_to(8, value), *ALL_REGISTERS), all_of([0] * 9 + [word & STATUS_BITS]))

    def test_each_bit_of_the_status_word(self):
        for bit in range(17):
            self.assertEqual(ask(set_to(8, 1 << bit), get(8)), [[0], [(1 << bit) & STATUS_BITS]])

    def test_all_bits_of_the_status_word(self):
        for value in (65535, -1, GREATEST, 0o357, 0o377):
            self.assertEqual(ask(set_to(8, value), get(8)), [[0], [0o357]])
        self.assertEqual(ask(set_to(8, 65535), set_to(8, 0o20), get(8)), [[0], [0], [0]])

    def test_the_last_value_stays(self):
        self.assertEqual(ask(set_to(3, 7), set_to(3, 8), get(3)), [[0], [0], [8]])

    def test_memory_and_why_stay(self):
        # Where all is 0, the first instruction is HALT.
        setting = [set_to(which, 65535) for which in list(range(9)) + list(WRONG)]
        parts = ask(load(100, [1, 2, 3]), run(1), *setting, WHY, *ALL_OF_MEMORY)
        memory = [byte for part in parts[-len(ALL_OF_MEMORY):] for byte in part[1:]]
        self.assertEqual(memory, [0] * 100 + [1, 2, 3] + [0] * (65536 - 103))
        self.assertEqual(parts[-len(ALL_OF_MEMORY) - 1], [1])

    def test_no_such_register(self):
        setting = [set_to(which, 100 + which) for which in range(8)] + [set_to(8, 0o105)]
        for which in WRONG:
            for value in (0, 1, -1, 65535, 65536, LEAST, GREATEST):
                with self.subTest(which=which, value=value):
                    parts = ask(*setting, set_to(which, value), *ALL_REGISTERS)[9:]
                    self.assertEqual(parts, all_of([-1, 100, 101, 102, 103, 104, 105, 106, 107, 0o105]))


if __name__ == "__main__":
    unittest.main()
