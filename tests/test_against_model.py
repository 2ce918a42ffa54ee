"""The program against tests/model.py: every word once, and programs and calls in many orders."""

import random
import unittest

from sixteenbit import core
from tests import model
from tests.calls import (ALL_OF_MEMORY, ALL_REGISTERS, CLEAR, WHY, GREATEST, LEAST, get, interrupt, load, load_words,
                         look, run, set_to)

EDGES = (0, 1, 2, 3, 0o177, 0o200, 0o377, 0o400, 0o77776, 0o77777, 0o100000, 0o100001, 0o177776, 0o177777)


def any_word(numbers):
    return numbers.choice((numbers.choice(EDGES), numbers.randrange(65536), numbers.randrange(32768) * 2))


def any_registers(numbers):
    """Mostly even, so that most instructions can be done."""
    words = [any_word(numbers) & (65534 if numbers.random() < 0.8 else 65535) for which in range(7)]
    return [set_to(which, word) for which, word in enumerate(words)] + [set_to(8, numbers.randrange(65536))]


def any_instruction(numbers):
    """Any word at times; else one of those that run on, of the sorts evenly."""
    operand = numbers.randrange(64)
    firsts = [numbers.randrange(1, 7) * 0o10000 + numbers.randrange(64) * 64,
              0o100000 + numbers.randrange(1, 7) * 0o10000 + numbers.randrange(64) * 64,
              0o5000 + numbers.randrange(12) * 64, 0o105000 + numbers.randrange(12) * 64,
              0o70000 + numbers.randrange(0o50) * 64, 0o300, 0o6700]
    others = [0o400 + numbers.randrange(0o3400), 0o100000 + numbers.randrange(0o4000), 0o77000 + numbers.randrange(512),
              0o240 + numbers.randrange(32), 0o100 + operand, 0o4000 + numbers.randrange(512), 0o200 + operand % 8,
              2, 3, 4, 5, 6, 0o104000 + numbers.randrange(512), 0o6400 + operand, numbers.randrange(65536)]
    return numbers.choice(firsts) + operand if numbers.random() < 0.8 else numbers.choice(others)


def flat(calls):
    return [number for call in calls for number in call]


class AgainstModelTest(unittest.TestCase):
    def assert_same(self, calls):
        numbers = flat(calls)
        if core.answers(numbers) == model.answers(numbers):
            return
        # Which of the calls it was.
        for k in range(1, len(calls) + 1):
            program, second = core.answers(flat(calls[:k])), model.answers(flat(calls[:k]))
            self.assertEqual(program, second, f"{calls[k - 1]} behind {calls[max(0, k - 25):k - 1]}")

    def test_every_word(self):
        numbers = random.Random(11)
        for first in range(0, 65536, 16):
            calls = [CLEAR, load(0o1000, [numbers.randrange(256) for k in range(1024)]),
                     load(0, [numbers.randrange(256) for k in range(64)])]
            for w in range(first, first + 16):
                calls += any_registers(numbers)
                calls += [set_to(7, 0o1000), load_words(0o1000, [w, any_word(numbers), any_word(numbers)]), run(1), WHY]
                calls += ALL_REGISTERS
            self.assert_same(calls)

    def test_every_word_changes_memory_as_it_should(self):
        numbers = random.Random(12)
        for first in range(0, 65536, 256):
            calls = [CLEAR, load(0, [numbers.randrange(256) for k in range(2048)])]
            for w in numbers.sample(range(first, first + 256), 25):
                calls += any_registers(numbers)
                calls += [set_to(7, 0o1000), load_words(0o1000, [w, any_word(numbers), any_word(numbers)]), run(1)]
            self.assert_same(calls + ALL_OF_MEMORY)

    def test_programs(self):
        numbers = random.Random(13)
        for k in range(60):
            words = [any_instruction(numbers) for place in range(8192)]
            calls = [CLEAR, load_words(0, words)] + any_registers(numbers)
            for turn in range(30):
                calls += [set_to(7, numbers.randrange(8192) * 2), set_to(6, numbers.randrange(32768) * 2),
                          run(numbers.randrange(60)), WHY] + ALL_REGISTERS[:9:2]
            self.assert_same(calls + ALL_REGISTERS + ALL_OF_MEMORY)

    def test_calls_in_many_orders(self):
        numbers = random.Random(14)
        for k in range(80):
            calls = [CLEAR]
            while len(calls) < 200:
                calls.append(self.any_call(numbers))
            self.assert_same(calls)

    def any_call(self, numbers):
        wild = numbers.choice((LEAST, GREATEST, -1, numbers.randint(LEAST, GREATEST), numbers.randint(-70000, 140000)))
        if numbers.random() < 0.05:
            return numbers.choice((get(wild), set_to(wild, 5), run(min(-1, wild)), run(1000001), look(wild, 3),
                                   look(5, min(-1, wild)), load(wild, [1, 2]), interrupt(wild, 7), interrupt(4, wild)))
        which = numbers.randrange(9)
        return numbers.choice((
            [1] if numbers.random() < 0.1 else WHY, WHY, get(which), get(which), set_to(which, any_word(numbers)),
            set_to(which, wild), set_to(7, numbers.randrange(300) * 2), run(numbers.randrange(20)), run(3),
            load_words(numbers.randrange(300) * 2, [any_instruction(numbers) for k in range(numbers.randrange(40))]),
            look(numbers.randrange(600), numbers.randrange(30)),
            interrupt(numbers.randrange(128) * 4, numbers.randrange(8)),
            interrupt(numbers.randrange(-2, 520), numbers.randrange(-1, 9))))


if __name__ == "__main__":
    unittest.main()
