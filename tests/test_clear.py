"""Promise 1: pd_clear sets all to 0."""

import unittest

from sixteenbit.core import answers, pd_clear, pd_set
from sixteenbit.machine import Machine

CLEAR = [1]


def load(at, data):
    return [2, at, len(data)] + data


def look(at, n):
    return [3, at, n]


class ClearTest(unittest.TestCase):
    def assert_all_zero(self, machine):
        self.assertEqual(machine.registers, [0] * 8)
        self.assertEqual(machine.memory, [0] * 65536)
        self.assertEqual(machine.priority, 0)
        flags = [machine.negative, machine.zero, machine.overflow, machine.carry]
        self.assertEqual(flags, [0, 0, 0, 0])
        self.assertEqual(machine.why, 0)

    def test_answers_0(self):
        self.assertEqual(answers(CLEAR), [1, 0])

    def test_answers_0_each_time(self):
        self.assertEqual(answers(CLEAR * 3), [1, 0] * 3)

    def test_all_of_memory_is_0_behind_it(self):
        for at in range(0, 65536, 2000):
            n = min(2000, 65536 - at)
            self.assertEqual(answers(CLEAR + look(at, n)), [1, 0, n + 1, 0] + [0] * n)

    def test_memory_is_0_again_behind_a_load(self):
        for at in (0, 1, 32768, 65533):
            calls = CLEAR + load(at, [1, 128, 255]) + CLEAR + look(at, 3)
            self.assertEqual(answers(calls), [1, 0, 1, 0, 1, 0, 4, 0, 0, 0, 0])

    def test_memory_can_be_loaded_again_behind_it(self):
        calls = CLEAR + load(5, [1, 2]) + CLEAR + load(6, [3]) + look(5, 2)
        self.assertEqual(answers(calls), [1, 0, 1, 0, 1, 0, 1, 0, 3, 0, 0, 3])

    def test_a_new_machine_is_all_0(self):
        self.assert_all_zero(Machine())

    def test_everything_is_0_behind_it(self):
        machine = Machine()
        for which in range(9):
            pd_set(machine, which, 65535)
        machine.memory[0] = 1
        machine.memory[65535] = 255
        machine.why = 3
        self.assertEqual(pd_clear(machine), [0])
        self.assert_all_zero(machine)


if __name__ == "__main__":
    unittest.main()
