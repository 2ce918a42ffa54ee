"""MUL, DIV, ASH and ASHC."""

import unittest

from tests.calls import RunCase

MUL, DIV, ASH, ASHC = 0o070000, 0o071000, 0o072000, 0o073000
EDGES = (0, 1, -1, 2, -2, 3, -7, 255, 256, -256, 32767, -32767, -32768)
FLAGS = ("", "NZVC")


def sign_flags(number):
    return ("N" if number < 0 else "") + ("Z" if number == 0 else "")


def upper(number):
    return number >> 16 & 65535


def lower(number):
    return number & 65535


def shifted(value, by, bits):
    """The result and the flags, bit by bit."""
    sign, out = value >> (bits - 1), 0
    result, is_exact = value, True
    for k in range(abs(by)):
        if by > 0:
            out = result >> (bits - 1)
            result = result * 2 % (1 << bits)
            is_exact = is_exact and result >> (bits - 1) == sign
        else:
            out = result & 1
            result = (result >> 1) + (sign << (bits - 1))
    flags = ("N" if result >> (bits - 1) else "") + ("Z" if result == 0 else "")
    return result, flags + ("" if is_exact else "V") + ("C" if out else "")


class MulTest(RunCase):
    def test_r_even(self):
        for a in EDGES:
            for b in EDGES:
                product = a * b
                then_flags = sign_flags(product) + ("" if -32768 <= product <= 32767 else "C")
                for flags in FLAGS:
                    with self.subTest(a=a, b=b, flags=flags):
                        self.assert_run([MUL + 0o205], registers={2: lower(a), 5: lower(b)}, flags=flags,
                                        then={2: upper(product), 3: lower(product)}, then_flags=then_flags)

    def test_r_odd(self):
        for a in EDGES:
            for b in EDGES:
                product = a * b
                then_flags = sign_flags(product) + ("" if -32768 <= product <= 32767 else "C")
                with self.subTest(a=a, b=b):
                    self.assert_run([MUL + 0o305], registers={3: lower(a), 5: lower(b)}, flags="NZVC",
                                    then={3: lower(product)}, then_flags=then_flags)

    def test_just_inside_and_just_outside_a_word(self):
        rows = [(181, 181, 0, 32761, ""), (2, 16384, 0, 32768, "C"), (-2, 16384, 0o177777, 32768, "N"),
                (-3, 10923, 0o177777, 32767, "NC"), (1, 32767, 0, 32767, ""), (-32768, -32768, 0o040000, 0, "C"),
                (-32768, 1, 0o177777, 32768, "N"), (-32768, -1, 0, 32768, "C"), (32767, 32767, 0o037777, 1, "C"),
                (256, 256, 1, 0, "C")]
        for a, b, high, low, then_flags in rows:
            self.assert_run([MUL + 0o205], registers={2: lower(a), 5: lower(b)},
                            then={2: high, 3: low}, then_flags=then_flags)
        # N and Z are the product's, not those of its lower word.
        self.assert_run([MUL + 0o305], registers={3: 256, 5: 256}, then={3: 0}, then_flags="C")
        self.assert_run([MUL + 0o305], registers={3: 2, 5: 16384}, then={3: 0o100000}, then_flags="C")

    def test_s_from_memory(self):
        self.assert_run([MUL + 0o227, 7], registers={2: 6}, then={2: 0, 3: 42})
        self.assert_run([MUL + 0o215], registers={2: 6}, memory={0o2500: 7}, then={2: 0, 3: 42})
        self.assert_run([MUL + 0o265, 4], registers={2: 6}, memory={0o2504: 7}, then={2: 0, 3: 42})

    def test_r_is_taken_when_s_has_been_told(self):
        self.assert_run([MUL + 0o222], memory={0o2200: 3}, then={2: 0, 3: 3 * 0o2202})
        self.assert_run([MUL + 0o343], memory={0o2276: 3}, then={3: 3 * 0o2276})
        self.assert_run([MUL + 0o223], registers={2: 5}, memory={0o2300: 3}, then={2: 0, 3: 15})

    def test_r_or_the_next_is_s(self):
        self.assert_run([MUL + 0o202], registers={2: 5}, then={2: 0, 3: 25})
        self.assert_run([MUL + 0o203], registers={2: 5, 3: 7}, then={2: 0, 3: 35})
        self.assert_run([MUL + 0o303], registers={3: 5}, then={3: 25})

    def test_sp_and_pc(self):
        self.assert_run([MUL + 0o605], registers={6: 3, 5: 0o400}, then={6: 0}, pc=0o1400)
        self.assert_run([MUL + 0o705], registers={5: 2}, pc=0o2004)
        self.assert_run([MUL + 0o727, 2], pc=0o2010)

    def test_every_even_pair(self):
        for r in (0, 2, 4):
            s = (r + 3) % 6
            self.assert_run([MUL + r * 64 + s], registers={r: 300, s: 300}, then={r: 1, r + 1: 90000 - 65536},
                            then_flags="C")


class DivTest(RunCase):
    def assert_div(self, number, by, quotient, rest, flags=""):
        with self.subTest(number=number, by=by, flags=flags):
            self.assert_run([DIV + 0o205], registers={2: upper(number), 3: lower(number), 5: lower(by)}, flags=flags,
                            then={2: lower(quotient), 3: lower(rest)}, then_flags=sign_flags(quotient))

    def assert_not_divided(self, number, by, set_flags):
        for flags in ("", "NZ", "N", "Z", "VC", "NZVC"):
            with self.subTest(number=number, by=by, flags=flags):
                kept = "".join(flag for flag in flags if flag in "NZ")
                registers = {2: upper(number), 3: lower(number), 5: lower(by)}
                self.assert_run([DIV + 0o205], registers=registers, flags=flags, then_flags=kept + set_flags)

    def test_each_pair_of_signs(self):
        for flags in FLAGS:
            self.assert_div(17, 5, 3, 2, flags)
            self.assert_div(-17, 5, -3, -2, flags)
            self.assert_div(17, -5, -3, 2, flags)
            self.assert_div(-17, -5, 3, -2, flags)

    def test_small_numbers(self):
        rows = [(0, 1, 0, 0), (0, -1, 0, 0), (1, 1, 1, 0), (-1, 1, -1, 0), (1, -1, -1, 0), (-1, -1, 1, 0),
                (4, 5, 0, 4), (-4, 5, 0, -4), (4, -5, 0, 4), (-4, -5, 0, -4), (15, 5, 3, 0), (-15, 5, -3, 0),
                (5, 32767, 0, 5), (5, -32768, 0, 5), (-5, -32768, 0, -5)]
        for number, by, quotient, rest in rows:
            self.assert_div(number, by, quotient, rest)

    def test_a_quotient_just_inside(self):
        rows = [(32767, 1, 32767, 0), (-32768, 1, -32768, 0), (32768, -1, -32768, 0), (-32767, -1, 32767, 0),
                (32767 * 7 + 6, 7, 32767, 6), (-32768 * 7 - 6, 7, -32768, -6), (32768 * 7 + 6, -7, -32768, 6),
                (-32767 * 7 - 6, -7, 32767, -6), (32767 * 32767 + 32766, 32767, 32767, 32766),
                (-32768 * 32767 - 32766, 32767, -32768, -32766), (32768 * 32768 + 32767, -32768, -32768, 32767),
                (-32767 * 32768 - 32767, -32768, 32767, -32767)]
        for number, by, quotient, rest in rows:
            self.assert_div(number, by, quotient, rest, "NZVC")

    def test_a_quotient_just_outside(self):
        rows = [(32768, 1), (-32769, 1), (32769, -1), (-32768, -1), (32768 * 7, 7), (-32769 * 7, 7), (32769 * 7, -7),
                (-32768 * 7, -7), (32768 * 32767, 32767), (-32768 * 32768, -32768), (2147483647, 1), (-2147483648, 1),
                (-2147483648, -1), (2147483647, 32767), (-2147483648, -32768), (-2147483648, 32767)]
        for number, by in rows:
            self.assert_not_divided(number, by, "V")

    def test_by_0(self):
        for number in (0, 1, -1, 32768, 2147483647, -2147483648):
            self.assert_not_divided(number, 0, "VC")

    def test_s_is_told_where_nothing_is_divided(self):
        self.assert_run([DIV + 0o225], memory={0o2500: 0}, then={5: 0o2502}, then_flags="VC")
        self.assert_run([DIV + 0o227, 0], then_flags="VC")
        self.assert_run([DIV + 0o225], registers={2: 100}, memory={0o2500: 1}, then={5: 0o2502}, then_flags="V")

    def test_r_and_the_next_are_taken_when_s_has_been_told(self):
        self.assert_run([DIV + 0o223], registers={2: 0}, memory={0o2300: 9}, then={2: 0o2302 // 9, 3: 0o2302 % 9})
        self.assert_run([DIV + 0o243], registers={2: 0}, memory={0o2276: 9}, then={2: 0o2276 // 9, 3: 0o2276 % 9})
        number = 0o2202 * 65536 + 5
        self.assert_run([DIV + 0o222], registers={3: 5}, memory={0o2200: 32767},
                        then={2: number // 32767, 3: number % 32767})

    def test_r_or_the_next_is_s(self):
        self.assert_run([DIV + 0o203], registers={2: 0, 3: 7}, then={2: 1, 3: 0})
        self.assert_run([DIV + 0o202], registers={2: 3, 3: 7}, then_flags="V")
        self.assert_run([DIV + 0o202], registers={2: 65535, 3: 65533}, then={2: 3, 3: 0})

    def test_sp_and_pc(self):
        self.assert_run([DIV + 0o605], registers={6: 0, 5: 0o400}, then={6: 2}, pc=2)

    def test_an_odd_number_is_no_instruction(self):
        for r in (1, 3, 5, 7):
            self.assert_no_instruction([DIV + r * 64 + 0o27, 3])
            self.assert_no_instruction([DIV + r * 64 + 0o14], registers={4: 1})


class AshTest(RunCase):
    def assert_ash(self, value, by, result, then_flags):
        for flags in FLAGS:
            for more in (0, 64, 0o177700):
                # Only the lower six bits of s count.
                with self.subTest(value=oct(value), by=by, flags=flags):
                    self.assert_run([ASH + 0o305], registers={3: value, 5: more + by % 64}, flags=flags,
                                    then={3: result}, then_flags=then_flags)

    def test_by_0(self):
        for value, then_flags in ((0, "Z"), (1, ""), (0o177777, "N"), (0o077777, ""), (0o100000, "N")):
            self.assert_ash(value, 0, value, then_flags)

    def test_to_the_left(self):
        rows = [(1, 1, 2, ""), (0o177777, 1, 0o177776, "NC"), (0o077777, 1, 0o177776, "NV"), (0o100000, 1, 0, "ZVC"),
                (0, 1, 0, "Z"), (1, 14, 0o040000, ""), (1, 15, 0o100000, "NV"), (1, 16, 0, "ZVC"), (1, 17, 0, "ZV"),
                (1, 31, 0, "ZV"), (0o177777, 15, 0o100000, "NC"), (0o177777, 16, 0, "ZVC"), (0o177777, 17, 0, "ZV"),
                (0o177777, 31, 0, "ZV"), (0, 31, 0, "Z"), (0o040000, 2, 0, "ZVC"), (0o040000, 3, 0, "ZV"),
                (0o140000, 1, 0o100000, "NC"), (0o140000, 2, 0, "ZVC"), (0o120000, 1, 0o040000, "VC"),
                (0o050000, 2, 0o040000, "VC"), (0o024000, 3, 0o040000, "VC"), (0o012345, 3, 0o123450, "NV"),
                (0o100000, 2, 0, "ZV"), (0o060000, 2, 0o100000, "NVC"), (3, 4, 0o60, "")]
        for value, by, result, then_flags in rows:
            self.assert_ash(value, by, result, then_flags)

    def test_to_the_right(self):
        rows = [(1, -1, 0, "ZC"), (2, -1, 1, ""), (3, -1, 1, "C"), (0, -1, 0, "Z"), (0o177777, -1, 0o177777, "NC"),
                (0o177776, -1, 0o177777, "N"), (0o100000, -1, 0o140000, "N"), (0o100000, -15, 0o177777, "N"),
                (0o100000, -16, 0o177777, "NC"), (0o100000, -17, 0o177777, "NC"), (0o100000, -32, 0o177777, "NC"),
                (0o177777, -32, 0o177777, "NC"), (0o077777, -14, 1, "C"), (0o077777, -15, 0, "ZC"),
                (0o077777, -16, 0, "Z"), (0o077777, -32, 0, "Z"), (0o012345, -3, 0o001234, "C"),
                (0o123450, -3, 0o172345, "N"), (0, -32, 0, "Z")]
        for value, by, result, then_flags in rows:
            self.assert_ash(value, by, result, then_flags)

    def test_every_number_of_bits(self):
        for value in (1, 0o177777, 0o077777, 0o100000, 0o012345, 0o165432):
            for by in range(-32, 32):
                result, then_flags = shifted(value, by, 16)
                with self.subTest(value=oct(value), by=by):
                    self.assert_run([ASH + 0o405], registers={4: value, 5: by % 64}, then={4: result},
                                    then_flags=then_flags)

    def test_r_is_taken_when_s_has_been_told(self):
        self.assert_run([ASH + 0o222], memory={0o2200: 1}, then={2: 0o2202 * 2})
        self.assert_run([ASH + 0o343], memory={0o2276: 2}, then={3: 0o2276 * 4})

    def test_r_is_s(self):
        self.assert_run([ASH + 0o303], registers={3: 3}, then={3: 0o30})
        self.assert_run([ASH + 0o303], registers={3: 0o177777}, then={3: 0o177777}, then_flags="NC")

    def test_s_behind_the_instruction_sp_and_pc(self):
        self.assert_run([ASH + 0o527, 2], then={5: 0o12400})
        self.assert_run([ASH + 0o605], registers={5: 1}, then={6: 0o6000})
        self.assert_run([ASH + 0o705], registers={5: 1}, pc=0o2004)
        self.assert_run([ASH + 0o727, 1], pc=0o2010)


class AshcTest(RunCase):
    def assert_ashc(self, value, by, result, then_flags):
        for flags in FLAGS:
            with self.subTest(value=hex(value), by=by, flags=flags):
                self.assert_run([ASHC + 0o205], registers={2: upper(value), 3: lower(value), 5: 0o177700 + by % 64},
                                flags=flags, then={2: upper(result), 3: lower(result)}, then_flags=then_flags)

    def test_by_0(self):
        for value, then_flags in ((0, "Z"), (1, ""), (0xFFFFFFFF, "N"), (0x7FFFFFFF, ""), (0x80000000, "N"),
                                  (0x8000, ""), (0x10000, "")):
            self.assert_ashc(value, 0, value, then_flags)

    def test_to_the_left(self):
        rows = [(1, 1, 2, ""), (0x8000, 1, 0x10000, ""), (0xFFFFFFFF, 1, 0xFFFFFFFE, "NC"),
                (0x7FFFFFFF, 1, 0xFFFFFFFE, "NV"), (0x80000000, 1, 0, "ZVC"), (1, 30, 0x40000000, ""),
                (1, 31, 0x80000000, "NV"), (3, 31, 0x80000000, "NVC"), (2, 31, 0, "ZVC"), (4, 31, 0, "ZV"),
                (0xFFFFFFFF, 31, 0x80000000, "NC"), (0x12345678, 4, 0x23456780, "VC"), (0, 31, 0, "Z"),
                (0xF1234567, 4, 0x12345670, "VC"), (0xF8234567, 4, 0x82345670, "NC"), (0x00012345, 8, 0x01234500, "")]
        for value, by, result, then_flags in rows:
            self.assert_ashc(value, by, result, then_flags)

    def test_to_the_right(self):
        rows = [(1, -1, 0, "ZC"), (0x10000, -1, 0x8000, ""), (0x80000000, -1, 0xC0000000, "N"),
                (0x80000000, -31, 0xFFFFFFFF, "N"), (0x80000000, -32, 0xFFFFFFFF, "NC"),
                (0x7FFFFFFF, -31, 0, "ZC"), (0x7FFFFFFF, -32, 0, "Z"), (0x40000000, -30, 1, ""),
                (0x40000000, -31, 0, "ZC"), (0x12345678, -4, 0x01234567, "C"), (0x12345678, -16, 0x1234, ""),
                (0x8234F678, -16, 0xFFFF8234, "NC"), (0, -32, 0, "Z"), (0xFFFFFFFF, -32, 0xFFFFFFFF, "NC")]
        for value, by, result, then_flags in rows:
            self.assert_ashc(value, by, result, then_flags)

    def test_every_number_of_bits(self):
        for value in (1, 0xFFFFFFFF, 0x7FFFFFFF, 0x80000000, 0x12345678, 0xDEADBEEF):
            for by in range(-32, 32):
                result, then_flags = shifted(value, by, 32)
                with self.subTest(value=hex(value), by=by):
                    self.assert_run([ASHC + 0o401], registers={4: upper(value), 5: lower(value), 1: by % 64},
                                    then={4: upper(result), 5: lower(result)}, then_flags=then_flags)

    def test_r_and_the_next_are_taken_when_s_has_been_told(self):
        self.assert_run([ASHC + 0o222], registers={3: 5}, memory={0o2200: 1}, then={2: 0o2202 * 2, 3: 10})
        self.assert_run([ASHC + 0o223], registers={2: 5}, memory={0o2300: 1}, then={2: 10, 3: 0o2302 * 2})
        self.assert_run([ASHC + 0o243], registers={2: 5}, memory={0o2276: 1}, then={2: 10, 3: 0o2276 * 2})

    def test_r_or_the_next_is_s(self):
        self.assert_run([ASHC + 0o203], registers={2: 0, 3: 3}, then={2: 0, 3: 0o30})
        self.assert_run([ASHC + 0o202], registers={2: 1, 3: 0o100000}, then={2: 3, 3: 0})

    def test_sp_and_pc(self):
        self.assert_run([ASHC + 0o605], registers={6: 0, 5: 1}, then={6: 0}, pc=0o2004)
        self.assert_run([ASHC + 0o627, 1], registers={6: 0}, then={6: 0}, pc=0o2010)

    def test_an_odd_number_is_no_instruction(self):
        for r in (1, 3, 5, 7):
            self.assert_no_instruction([ASHC + r * 64 + 0o27, 3])
            self.assert_no_instruction([ASHC + r * 64 + 0o14], registers={4: 1})


if __name__ == "__main__":
    unittest.main()
