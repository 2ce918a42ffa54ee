"""Promise 2: pd_load and pd_look."""

import random
import unittest

from sixteenbit.core import answers, pd_look
from sixteenbit.machine import Machine
from tests.calls import GREATEST, LEAST, load, look


def behind_clear(*calls):
    # What's given back for pd_clear is cut off.
    given_back = answers([1] + [number for call in calls for number in call])
    return given_back[2:]


LOADED = [1, 0]
REFUSED = [1, -1]


class LoadTest(unittest.TestCase):
    def test_bytes_go_to_memory_from_at_on(self):
        given_back = behind_clear(load(100, [1, 2, 3]), look(99, 5))
        self.assertEqual(given_back, LOADED + [6, 0, 0, 1, 2, 3, 0])

    def test_bytes_of_0_and_255(self):
        given_back = behind_clear(load(7, [255, 0, 255]), look(7, 3), load(7, [0, 255, 0]), look(7, 3))
        self.assertEqual(given_back, LOADED + [4, 0, 255, 0, 255] + LOADED + [4, 0, 0, 255, 0])

    def test_every_byte(self):
        data = list(range(256))
        self.assertEqual(behind_clear(load(1001, data), look(1001, 256)), LOADED + [257, 0] + data)

    def test_a_second_load_over_a_first(self):
        given_back = behind_clear(load(10, [1, 2, 3, 4]), load(12, [7, 8, 9]), load(9, [5, 6]), look(8, 8))
        self.assertEqual(given_back, LOADED * 3 + [9, 0, 0, 5, 6, 2, 7, 8, 9, 0])

    def test_the_first_and_the_last_byte(self):
        given_back = behind_clear(load(0, [11]), load(65535, [22]), look(0, 2), look(65534, 2))
        self.assertEqual(given_back, LOADED * 2 + [3, 0, 11, 0, 3, 0, 0, 22])

    def test_no_bytes(self):
        for at in (0, 1, 65535, 65536):
            self.assertEqual(behind_clear(load(at, [])), LOADED)
        for at in (-1, 65537, LEAST, GREATEST):
            self.assertEqual(behind_clear(load(at, [])), REFUSED)

    def test_no_bytes_change_nothing(self):
        given_back = behind_clear(load(20, [1, 2]), load(21, []), look(20, 3))
        self.assertEqual(given_back, LOADED * 2 + [4, 0, 1, 2, 0])

    def test_up_to_the_end_of_memory(self):
        for n in (1, 2, 100, 29000):
            data = [k % 255 + 1 for k in range(n)]
            seen = min(n, 2000)
            given_back = behind_clear(load(65536 - n, data), look(65536 - seen, seen))
            self.assertEqual(given_back, LOADED + [seen + 1, 0] + data[n - seen:])

    def test_beyond_the_end_of_memory(self):
        for n in (1, 2, 100, 29000):
            self.assertEqual(behind_clear(load(65537 - n, [1] * n)), REFUSED)

    def test_at_out_of_memory(self):
        for at in (-1, -2, -65536, 65536, 65537, 131072, LEAST, LEAST + 1, GREATEST - 1, GREATEST):
            with self.subTest(at=at):
                self.assertEqual(behind_clear(load(at, [9])), REFUSED)

    def test_a_refused_load_changes_nothing(self):
        for at in (-1, -2, 65534, 65535, 65536, LEAST, GREATEST):
            with self.subTest(at=at):
                first, last = load(0, [1, 2, 3]), load(65533, [4, 5, 6])
                given_back = behind_clear(first, last, load(at, [9, 9, 9]), look(0, 4), look(65532, 4))
                self.assertEqual(given_back, LOADED * 2 + REFUSED + [5, 0, 1, 2, 3, 0, 5, 0, 0, 4, 5, 6])


class LookTest(unittest.TestCase):
    def test_no_bytes(self):
        for at in (0, 1, 65535, 65536):
            self.assertEqual(behind_clear(look(at, 0)), [1, 0])
        for at in (-1, 65537, LEAST, GREATEST):
            self.assertEqual(behind_clear(look(at, 0)), REFUSED)

    def test_as_many_bytes_as_may_be_asked_for(self):
        data = [k * 7 % 256 for k in range(2000)]
        for at in (0, 1, 63536):
            self.assertEqual(behind_clear(load(at, data), look(at, 2000)), LOADED + [2001, 0] + data)

    def test_end_of_memory(self):
        for n in (1, 2, 1999, 2000):
            self.assertEqual(behind_clear(look(65536 - n, n)), [n + 1, 0] + [0] * n)
            self.assertEqual(behind_clear(look(65537 - n, n)), REFUSED)

    def test_at_out_of_memory(self):
        for at in (-1, -2, -65536, 65536, 65537, LEAST, GREATEST):
            for n in (1, 2, 2000):
                with self.subTest(at=at, n=n):
                    self.assertEqual(behind_clear(look(at, n)), REFUSED)

    def test_n_below_0(self):
        for at in (LEAST, -1, 0, 1, 100, 65535, 65536, 65537, GREATEST):
            for n in (-1, -2, -100, -65536, LEAST + 1, LEAST):
                with self.subTest(at=at, n=n):
                    self.assertEqual(behind_clear(look(at, n)), REFUSED)

    def test_n_above_memory(self):
        for n in (65536, 65537, GREATEST):
            answer = pd_look(Machine(), 0, n)
            self.assertEqual(answer, [0] * 65537 if n == 65536 else [-1])

    def test_looking_changes_nothing(self):
        given_back = behind_clear(load(3, [1, 2, 3]), look(3, 3), look(-1, 3), look(65535, 2), look(3, 3))
        self.assertEqual(given_back, LOADED + [4, 0, 1, 2, 3] + REFUSED * 2 + [4, 0, 1, 2, 3])


class AgainstAModelTest(unittest.TestCase):
    def test_loads_and_looks_in_many_orders(self):
        numbers = random.Random(16)
        for round_number in range(30):
            memory, calls, expected = {}, [1], [1, 0]
            for step in range(60):
                at = numbers.choice([numbers.randint(-3, 40), numbers.randint(65500, 65540)])
                n = numbers.randint(0, 12)
                inside = at >= 0 and at + n <= 65536
                if step % 2:
                    data = [numbers.randint(0, 255) for k in range(n)]
                    calls += load(at, data)
                    expected += LOADED if inside else REFUSED
                    memory.update({at + k: data[k] for k in range(n)} if inside else {})
                else:
                    calls += look(at, n)
                    seen = [memory.get(k, 0) for k in range(at, at + n)]
                    expected += [n + 1, 0] + seen if inside else REFUSED
            self.assertEqual(answers(calls), expected)


if __name__ == "__main__":
    unittest.main()
