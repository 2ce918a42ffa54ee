"""Promise 3, what it says of pd_set."""

import unittest

from sixteenbit.core import answers, pd_set
from sixteenbit.machine import Machine

LEAST = -2147483648
GREATEST = 2147483647

VALUES = [
    (0, 0), (1, 1), (32767, 32767), (32768, 32768), (65535, 65535), (65536, 0), (65537, 1), (131071, 65535),
    (-1, 65535), (-2, 65534), (-32768, 32768), (-65535, 1), (-65536, 0), (-65537, 65535),
    (LEAST, 0), (LEAST + 1, 1), (GREATEST, 65535), (GREATEST - 1, 65534),
]

WRONG = (-1, -2, -8, -9, 9, 10, 16, 65536, 65544, LEAST, LEAST + 8, GREATEST)


def state(machine):
    flags = (machine.negative, machine.zero, machine.overflow, machine.carry)
    return list(machine.registers), machine.priority, flags


class AnswerTest(unittest.TestCase):
    def test_registers_and_status_word(self):
        for which in range(9):
            for value, word in VALUES:
                with self.subTest(which=which, value=value):
                    self.assertEqual(answers([1, 4, which, value]), [1, 0, 1, 0])

    def test_no_such_register(self):
        for which in WRONG:
            for value in (0, 1, -1, 65535, 65536, LEAST, GREATEST):
                with self.subTest(which=which, value=value):
                    self.assertEqual(answers([1, 4, which, value]), [1, 0, 1, -1])

    def test_memory_stays(self):
        calls = [1, 2, 0, 3, 1, 2, 3]
        for which in list(range(9)) + list(WRONG):
            calls += [4, which, 65535]
        self.assertEqual(answers(calls + [3, 0, 20])[-21:], [0, 1, 2, 3] + [0] * 17)


class RegisterTest(unittest.TestCase):
    def test_the_register_alone_becomes_the_value_modulo_65536(self):
        for which in range(8):
            for value, word in VALUES:
                with self.subTest(which=which, value=value):
                    machine = Machine()
                    self.assertEqual(pd_set(machine, which, value), [0])
                    expected = [0] * 8
                    expected[which] = word
                    self.assertEqual(state(machine), (expected, 0, (0, 0, 0, 0)))

    def test_the_last_value_stays(self):
        machine = Machine()
        for which in range(8):
            pd_set(machine, which, 7)
            pd_set(machine, which, 100 + which)
        self.assertEqual(machine.registers, [100, 101, 102, 103, 104, 105, 106, 107])


class StatusWordTest(unittest.TestCase):
    def test_the_priority(self):
        for priority in range(8):
            machine = Machine()
            self.assertEqual(pd_set(machine, 8, priority * 32), [0])
            self.assertEqual(state(machine), ([0] * 8, priority, (0, 0, 0, 0)))

    def test_each_flag(self):
        for value, flags in ((8, (1, 0, 0, 0)), (4, (0, 1, 0, 0)), (2, (0, 0, 1, 0)), (1, (0, 0, 0, 1))):
            machine = Machine()
            self.assertEqual(pd_set(machine, 8, value), [0])
            self.assertEqual(state(machine), ([0] * 8, 0, flags))

    def test_other_bits_are_not_looked_at(self):
        for value in (16, 256, 32768, 65536, 65535 - 0o357, -65536, LEAST):
            machine = Machine()
            pd_set(machine, 8, value)
            self.assertEqual(state(machine), ([0] * 8, 0, (0, 0, 0, 0)))

    def test_all_bits(self):
        for value in (0o357, 65535, -1, GREATEST):
            machine = Machine()
            pd_set(machine, 8, value)
            self.assertEqual(state(machine), ([0] * 8, 7, (1, 1, 1, 1)))

    def test_what_was_set_is_cleared(self):
        machine = Machine()
        pd_set(machine, 8, 65535)
        pd_set(machine, 8, 0o205)
        self.assertEqual(state(machine), ([0] * 8, 4, (0, 1, 0, 1)))

    def test_registers_stay(self):
        machine = Machine()
        for which in range(8):
            pd_set(machine, which, which + 1)
        pd_set(machine, 8, 65535)
        self.assertEqual(machine.registers, [1, 2, 3, 4, 5, 6, 7, 8])


class RefusalTest(unittest.TestCase):
    def test_all_is_as_it_was(self):
        machine = Machine()
        for which in range(8):
            pd_set(machine, which, 10 * which + 1)
        pd_set(machine, 8, 0o105)
        machine.memory[8:10] = [3, 4]
        before = state(machine), list(machine.memory), machine.why
        for which in WRONG:
            self.assertEqual(pd_set(machine, which, 65535), [-1])
            self.assertEqual((state(machine), machine.memory, machine.why), before)


if __name__ == "__main__":
    unittest.main()
