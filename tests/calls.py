"""Calls as lists of numbers, and a run of a few words with all that can be seen of the machine behind it."""

import unittest

from sixteenbit.core import answers

LEAST = -2147483648
GREATEST = 2147483647

CLEAR = [1]
WHY = [7]


def load(at, data):
    return [2, at, len(data)] + list(data)


def load_words(at, words):
    return load(at, [byte for word in words for byte in (word & 255, word >> 8)])


def look(at, n):
    return [3, at, n]


def set_to(which, value):
    return [4, which, value]


def get(which):
    return [5, which]


def run(n):
    return [6, n]


def interrupt(vector, priority):
    return [8, vector, priority]


def split(given_back):
    parts, place = [], 0
    while place < len(given_back):
        behind = place + 1 + given_back[place]
        parts.append(given_back[place + 1:behind])
        place = behind
    return parts


def ask(*calls):
    """The answers to these calls, a list each, behind a pd_clear whose own answer is left away."""
    return split(answers(CLEAR + [number for call in calls for number in call]))[1:]


ALL_OF_MEMORY = [look(at, min(2000, 65536 - at)) for at in range(0, 65536, 2000)]
ALL_REGISTERS = [get(which) for which in range(9)]

# Each other than the others, even, and none of them where the words of a run lie.
USUAL = (0o2000, 0o2100, 0o2200, 0o2300, 0o2400, 0o2500, 0o3000)
START = 0o1000


def status_of(flags, priority=0):
    return priority * 32 + sum({"N": 8, "Z": 4, "V": 2, "C": 1}[flag] for flag in flags)


def flags_of(status):
    return "".join(flag for flag, bit in (("N", 8), ("Z", 4), ("V", 2), ("C", 1)) if status & bit)


class Seen:
    """Registers, status word and memory: as a test lays them out, or as the calls answer them."""

    def __init__(self, registers, status, memory):
        self.registers, self.status, self.memory = list(registers), status, bytearray(memory)

    def set_words(self, words):
        for place, word in words.items():
            self.memory[place:place + 2] = [word & 255, word >> 8]

    def set_bytes(self, small):
        for place, byte in small.items():
            self.memory[place] = byte


class RunCase(unittest.TestCase):
    def lay_out(self, words, at, registers, status, memory, small):
        before = Seen(USUAL + (at,), status, bytes(65536))
        for which, value in registers.items():
            before.registers[which] = value
        before.set_words({(at + 2 * k) % 65536: word for k, word in enumerate(words)})
        before.set_words(memory)
        before.set_bytes(small)
        return before

    def go(self, before, *calls):
        """Puts a machine into a state, makes the calls: their answers, and what's seen behind them."""
        setting = [set_to(which, value) for which, value in enumerate(before.registers + [before.status])]
        taken = [at for at in range(0, 65536, 256) if before.memory[at:at + 256] != bytes(256)]
        loading = [load(at, before.memory[at:at + 256]) for at in taken]
        parts = ask(*setting, *loading, *calls, *ALL_REGISTERS, *ALL_OF_MEMORY)
        parts = parts[len(setting) + len(loading):]
        answered, parts = [part[0] for part in parts[:len(calls)]], parts[len(calls):]
        words, parts = [part[0] for part in parts[:9]], parts[9:]
        memory = b"".join(bytes(part[1:]) for part in parts)
        return answered, Seen(words[:8], words[8], memory)

    def assert_seen(self, seen, expected):
        self.assertEqual([oct(word) for word in seen.registers], [oct(word) for word in expected.registers])
        self.assertEqual((flags_of(seen.status), seen.status), (flags_of(expected.status), expected.status))
        if seen.memory != expected.memory:
            places = [at for at in range(65536) if seen.memory[at] != expected.memory[at]]
            wrong = [(oct(at), oct(seen.memory[at]), oct(expected.memory[at])) for at in places[:10]]
            self.fail(f"place, seen, expected: {wrong}")

    def assert_run(self, words, registers={}, flags="", memory={}, small={}, n=1, at=START, priority=0,
                   then={}, then_flags=None, then_memory={}, then_small={}, pc=None, done=None, why=0,
                   then_priority=None):
        """Runs the words: what's named with `then` becomes so, PC goes behind the words, and all else stays."""
        before = self.lay_out(words, at, registers, status_of(flags, priority), memory, small)
        answered, seen = self.go(before, run(n), WHY)
        expected = Seen(before.registers, before.status, before.memory)
        expected.registers[7] = (at + 2 * len(words)) % 65536 if pc is None else pc
        for which, value in then.items():
            expected.registers[which] = value
        expected.status = status_of(flags if then_flags is None else then_flags,
                                    priority if then_priority is None else then_priority)
        expected.set_words(then_memory)
        expected.set_bytes(then_small)
        self.assertEqual(answered, [n if done is None else done, why])
        self.assert_seen(seen, expected)

    def assert_stays(self, words, why, registers={}, flags="", memory={}, small={}, at=START, priority=0):
        """The first of the words can't be done: all stays as it was."""
        before = self.lay_out(words, at, registers, status_of(flags, priority), memory, small)
        answered, seen = self.go(before, run(5), WHY)
        self.assertEqual(answered, [0, why])
        self.assert_seen(seen, before)

    def assert_odd(self, words, **given):
        for flags in ("", "NZVC"):
            self.assert_stays(words, 4, flags=flags, **given)

    def assert_no_instruction(self, words, **given):
        for flags in ("", "NZVC"):
            self.assert_stays(words, 3, flags=flags, **given)
