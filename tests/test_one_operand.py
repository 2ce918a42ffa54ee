"""The instructions of one operand, on words and on bytes, and SWAB, SXT and XOR."""

import unittest

from tests.calls import RunCase

# By the instruction: d; the result and the flags behind it, where C was clear; the same where it was set.
ROWS = {
    0o0050: [  # CLR
        (0, 0, "Z", 0, "Z"), (1, 0, "Z", 0, "Z"), (0o177777, 0, "Z", 0, "Z"), (0o077777, 0, "Z", 0, "Z"),
        (0o100000, 0, "Z", 0, "Z")],
    0o0051: [  # COM
        (0, 0o177777, "NC", 0o177777, "NC"), (1, 0o177776, "NC", 0o177776, "NC"), (0o177777, 0, "ZC", 0, "ZC"),
        (0o077777, 0o100000, "NC", 0o100000, "NC"), (0o100000, 0o077777, "C", 0o077777, "C")],
    0o0052: [  # INC
        (0, 1, "", 1, "C"), (1, 2, "", 2, "C"), (0o177777, 0, "Z", 0, "ZC"),
        (0o077777, 0o100000, "NV", 0o100000, "NVC"), (0o100000, 0o100001, "N", 0o100001, "NC")],
    0o0053: [  # DEC
        (0, 0o177777, "N", 0o177777, "NC"), (1, 0, "Z", 0, "ZC"), (0o177777, 0o177776, "N", 0o177776, "NC"),
        (0o077777, 0o077776, "", 0o077776, "C"), (0o100000, 0o077777, "V", 0o077777, "VC")],
    0o0054: [  # NEG
        (0, 0, "Z", 0, "Z"), (1, 0o177777, "NC", 0o177777, "NC"), (0o177777, 1, "C", 1, "C"),
        (0o077777, 0o100001, "NC", 0o100001, "NC"), (0o100000, 0o100000, "NVC", 0o100000, "NVC")],
    0o0055: [  # ADC
        (0, 0, "Z", 1, ""), (1, 1, "", 2, ""), (0o177777, 0o177777, "N", 0, "ZC"),
        (0o077777, 0o077777, "", 0o100000, "NV"), (0o100000, 0o100000, "N", 0o100001, "N")],
    0o0056: [  # SBC
        (0, 0, "Z", 0o177777, "NC"), (1, 1, "", 0, "Z"), (0o177777, 0o177777, "N", 0o177776, "N"),
        (0o077777, 0o077777, "", 0o077776, ""), (0o100000, 0o100000, "N", 0o077777, "V")],
    0o0057: [  # TST
        (0, 0, "Z", 0, "Z"), (1, 1, "", 1, ""), (0o177777, 0o177777, "N", 0o177777, "N"),
        (0o077777, 0o077777, "", 0o077777, ""), (0o100000, 0o100000, "N", 0o100000, "N")],
    0o0060: [  # ROR
        (0, 0, "Z", 0o100000, "NV"), (1, 0, "ZVC", 0o100000, "NC"), (0o177777, 0o077777, "VC", 0o177777, "NC"),
        (0o077777, 0o037777, "VC", 0o137777, "NC"), (0o100000, 0o040000, "", 0o140000, "NV")],
    0o0061: [  # ROL
        (0, 0, "Z", 1, ""), (1, 2, "", 3, ""), (0o177777, 0o177776, "NC", 0o177777, "NC"),
        (0o077777, 0o177776, "NV", 0o177777, "NV"), (0o100000, 0, "ZVC", 1, "VC")],
    0o0062: [  # ASR
        (0, 0, "Z", 0, "Z"), (1, 0, "ZVC", 0, "ZVC"), (0o177777, 0o177777, "NC", 0o177777, "NC"),
        (0o077777, 0o037777, "VC", 0o037777, "VC"), (0o100000, 0o140000, "NV", 0o140000, "NV")],
    0o0063: [  # ASL
        (0, 0, "Z", 0, "Z"), (1, 2, "", 2, ""), (0o177777, 0o177776, "NC", 0o177776, "NC"),
        (0o077777, 0o177776, "NV", 0o177776, "NV"), (0o100000, 0, "ZVC", 0, "ZVC")],
}


def as_byte(word):
    # The rows' words are all runs of like bits in the middle: without these they're the rows of bytes.
    return (word >> 12) * 16 + (word & 15)


def cases():
    for code, rows in ROWS.items():
        for d, clear_result, clear_flags, set_result, set_flags in rows:
            # What isn't C doesn't count, whichever way it was.
            for flags in ("", "NZV"):
                yield code, d, flags, clear_result, clear_flags
                yield code, d, flags + "C", set_result, set_flags


class WordTest(RunCase):
    def test_on_a_register(self):
        for code, d, flags, result, then_flags in cases():
            with self.subTest(code=oct(code), d=oct(d), flags=flags):
                self.assert_run([code * 64 + 3], registers={3: d}, flags=flags, priority=5,
                                then={3: result}, then_flags=then_flags)

    def test_on_memory(self):
        for code, d, flags, result, then_flags in cases():
            with self.subTest(code=oct(code), d=oct(d), flags=flags):
                self.assert_run([code * 64 + 0o13], memory={0o2276: 0o52525, 0o2300: d, 0o2302: 0o52525}, flags=flags,
                                then_memory={0o2300: result}, then_flags=then_flags)


class ByteTest(RunCase):
    def test_on_a_register_the_upper_byte_stays(self):
        for code, d, flags, result, then_flags in cases():
            with self.subTest(code=oct(code), d=oct(as_byte(d)), flags=flags):
                for upper in (0, 0o252 * 256, 0o125 * 256):
                    self.assert_run([0o100000 + code * 64 + 3], registers={3: upper + as_byte(d)}, flags=flags,
                                    then={3: upper + as_byte(result)}, then_flags=then_flags)

    def test_on_memory_the_bytes_beside_it_stay(self):
        for code, d, flags, result, then_flags in cases():
            for at in (0o2300, 0o2301):
                with self.subTest(code=oct(code), d=oct(as_byte(d)), flags=flags, at=oct(at)):
                    self.assert_run([0o100000 + code * 64 + 0o13], registers={3: at}, flags=flags,
                                    small={at - 1: 0o252, at: as_byte(d), at + 1: 0o125},
                                    then_small={at: as_byte(result)}, then_flags=then_flags)


class EachRegisterTest(RunCase):
    def test_com(self):
        for r in range(7):
            self.assert_run([0o005100 + r], registers={r: 0o123456}, then={r: 0o054321}, then_flags="C")
            self.assert_run([0o105100 + r], registers={r: 0o123456}, then={r: 0o123721}, then_flags="NC")
        self.assert_run([0o005107], pc=65535 - 0o1002, then_flags="NC")
        self.assert_run([0o105107], pc=0o1375, then_flags="NC")


class SwabTest(RunCase):
    def test_swab(self):
        rows = [(0, 0, "Z"), (1, 0o400, "Z"), (0o177777, 0o177777, "N"), (0o077777, 0o177577, ""),
                (0o100000, 0o000200, "N"), (0o000377, 0o177400, "Z"), (0o177400, 0o000377, "N"),
                (0o000200, 0o100000, "Z"), (0o123456, 0o027247, "N"), (0o052400, 0o000125, "")]
        for d, result, then_flags in rows:
            for flags in ("", "NZVC"):
                with self.subTest(d=oct(d), flags=flags):
                    self.assert_run([0o000304], registers={4: d}, flags=flags, then={4: result},
                                    then_flags=then_flags)
                    self.assert_run([0o000314], memory={0o2400: d}, flags=flags, then_memory={0o2400: result},
                                    then_flags=then_flags)


    def test_each_register(self):
        for r in range(7):
            self.assert_run([0o000300 + r], registers={r: 0o123456}, then={r: 0o027247}, then_flags="N")
        self.assert_run([0o000307], at=0o1000, pc=0o1002)


class SxtTest(RunCase):
    def test_sxt(self):
        for d in (0, 1, 0o177777, 0o077777, 0o100000):
            for flags, result, then_flags in (("", 0, "Z"), ("ZVC", 0, "ZC"), ("N", 0o177777, "N"),
                                              ("NZVC", 0o177777, "NC"), ("V", 0, "Z"), ("C", 0, "ZC")):
                with self.subTest(d=oct(d), flags=flags):
                    self.assert_run([0o006704], registers={4: d}, flags=flags, then={4: result},
                                    then_flags=then_flags)
                    self.assert_run([0o006724], memory={0o2400: d}, flags=flags, then={4: 0o2402},
                                    then_memory={0o2400: result}, then_flags=then_flags)


    def test_each_register(self):
        for r in range(7):
            self.assert_run([0o006700 + r], flags="N", then={r: 0o177777})
            self.assert_run([0o006700 + r], then={r: 0}, then_flags="Z")
        self.assert_run([0o006707], flags="N", pc=0o177777)


class XorTest(RunCase):
    def test_xor(self):
        rows = [(0, 0, 0, "Z"), (0o177777, 0o177777, 0, "Z"), (0o177777, 0, 0o177777, "N"), (1, 0, 1, ""),
                (0o100000, 0o077777, 0o177777, "N"), (0o100000, 0o177777, 0o077777, ""),
                (0o077777, 0o077776, 1, ""), (0o052525, 0o125252, 0o177777, "N")]
        for r, d, result, then_flags in rows:
            for flags, carry in (("", ""), ("NZV", ""), ("C", "C"), ("NZVC", "C")):
                with self.subTest(r=oct(r), d=oct(d), flags=flags):
                    self.assert_run([0o074204], registers={2: r, 4: d}, flags=flags, then={4: result},
                                    then_flags=then_flags + carry)
                    self.assert_run([0o074214], registers={2: r}, memory={0o2400: d}, flags=flags,
                                    then_memory={0o2400: result}, then_flags=then_flags + carry)

    def test_with_itself(self):
        self.assert_run([0o074202], then={2: 0}, then_flags="Z")

    def test_r_is_taken_when_d_has_been_told(self):
        self.assert_run([0o074222], memory={0o2200: 0}, then={2: 0o2202}, then_memory={0o2200: 0o2202})
        self.assert_run([0o074242], memory={0o2176: 0}, then={2: 0o2176}, then_memory={0o2176: 0o2176})
        self.assert_run([0o074232], memory={0o2200: 0o2600}, then={2: 0o2202}, then_memory={0o2600: 0o2202})
        # R is PC, and d has a word more behind the instruction.
        self.assert_run([0o074762, 4], memory={0o2204: 0}, then_memory={0o2204: 0o1004})
        self.assert_run([0o074712], memory={0o2200: 0}, then_memory={0o2200: 0o1002})

    def test_with_sp_and_pc(self):
        self.assert_run([0o074604], registers={4: 1}, then={4: 0o3001})
        self.assert_run([0o074407], registers={4: 0o6}, pc=0o1004)


if __name__ == "__main__":
    unittest.main()
