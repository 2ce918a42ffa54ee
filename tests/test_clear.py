"""Promise 1: pd_clear sets all to 0."""

import unittest

from sixteenbit.core import answers, pd_clear, pd_set
from sixteenbit.machine import Machine
from tests.calls import ALL_OF_MEMORY, ALL_REGISTERS, CLEAR, WHY, ask, load, load_words, look, run, set_to


class ClearTest(unittest.TestCase):
    def assert_all_zero(self, machine):
        self.assertEqual(machine.registers, [0] * 8)
        self.assertEqual(machine.memory, [0] * 65536)
        self.assertEqual(machine.priority, 0)
        flags = [machine.negative, machine.zero, machine.overflow, machine.carry]
        self.assertEqual(flags, [0, 0, 0, 0])
        self.assertEqual(machine.why, 0)

    def test_answers_0(self):
        self.assertEqual(answers(CLEAR), [1, 0])

    def test_answers_0_each_time(self):
        self.assertEqual(answers(CLEAR * 3), [1, 0] * 3)

    def test_all_of_memory_is_0_behind_it(self):
        for at in range(0, 65536, 2000):
            n = min(2000, 65536 - at)
            self.assertEqual(answers(CLEAR + look(at, n)), [1, 0, n + 1, 0] + [0] * n)

    def test_memory_is_0_again_behind_a_load(self):
        for at in (0, 1, 32768, 65533):
            calls = CLEAR + load(at, [1, 128, 255]) + CLEAR + look(at, 3)
            self.assertEqual(answers(calls), [1, 0, 1, 0, 1, 0, 4, 0, 0, 0, 0])

    def test_memory_can_be_loaded_again_behind_it(self):
        calls = CLEAR + load(5, [1, 2]) + CLEAR + load(6, [3]) + look(5, 2)
        self.assertEqual(answers(calls), [1, 0, 1, 0, 1, 0, 1, 0, 3, 0, 0, 3])

    def test_a_new_machine_is_all_0(self):
        self.assert_all_zero(Machine())

    def test_everything_is_0_behind_it(self):
        machine = Machine()
        for which in range(9):
            pd_set(machine, which, 65535)
        machine.memory[0] = 1
        machine.memory[65535] = 255
        machine.why = 3
        self.assertEqual(pd_clear(machine), [0])
        self.assert_all_zero(machine)

    def test_everything_is_seen_to_be_0_behind_it(self):
        # MOV R1, (R2) and a word that is no instruction: memory, flags and why have changed by a run, too.
        setting = [set_to(which, 0o4001 * which) for which in range(7)] + [set_to(8, 0o357), set_to(7, 0o1000)]
        parts = ask(load_words(0o1000, [0o010112, 7]), *setting, set_to(2, 0o4000), run(5), WHY, CLEAR, WHY,
                    *ALL_REGISTERS, *ALL_OF_MEMORY)
        behind = parts[len(setting) + 2:]
        self.assertEqual(behind[:13], [[1], [3], [0], [0]] + [[0]] * 9)
        self.assertEqual({byte for part in behind[13:] for byte in part}, {0})

    def test_a_run_behind_it_starts_at_0(self):
        parts = ask(load_words(0o1000, [0o005200]), set_to(7, 0o1000), run(1), CLEAR, load_words(0, [0o005201]), run(2),
                    WHY, *ALL_REGISTERS)
        self.assertEqual(parts[5:], [[2], [1], [0], [1]] + [[0]] * 5 + [[4], [0]])


if __name__ == "__main__":
    unittest.main()
