"""The instructions of two operands: what they give and their flags, on words and on bytes."""

import unittest

from tests.calls import RunCase

WORDS = (0, 1, 0o177777, 0o077777, 0o100000)
BYTES = (0, 1, 0o377, 0o177, 0o200)

MOV, CMP, BIT, BIC, BIS, ADD, MOVB, CMPB, BITB, BICB, BISB, SUB = (
    0o010000, 0o020000, 0o030000, 0o040000, 0o050000, 0o060000,
    0o110000, 0o120000, 0o130000, 0o140000, 0o150000, 0o160000)


def n_and_z(result, bits):
    return ("N" if result >> (bits - 1) else "") + ("Z" if result == 0 else "")


def with_sign(value, bits):
    return value - (1 << bits) if value >> (bits - 1) else value


def is_outside(number, bits):
    return not -(1 << (bits - 1)) <= number < 1 << (bits - 1)


def compared(a, b, bits):
    """a - b: the result and its flags, by what the numbers are with and without a sign."""
    result = (a - b) % (1 << bits)
    overflow = "V" if is_outside(with_sign(a, bits) - with_sign(b, bits), bits) else ""
    return result, n_and_z(result, bits) + overflow + ("C" if a < b else "")


def added(a, b, bits):
    result = (a + b) % (1 << bits)
    overflow = "V" if is_outside(with_sign(a, bits) + with_sign(b, bits), bits) else ""
    return result, n_and_z(result, bits) + overflow + ("C" if a + b >= 1 << bits else "")


class TwoOperandsCase(RunCase):
    def assert_words(self, word, s, d, flags, result, then_flags):
        """With R1, R2 and with (R1), (R2)."""
        with self.subTest(word=oct(word), s=oct(s), d=oct(d), flags=flags):
            self.assert_run([word + 0o0102], registers={1: s, 2: d}, flags=flags,
                            then={2: result}, then_flags=then_flags)
            self.assert_run([word + 0o1112], memory={0o2100: s, 0o2200: d}, flags=flags, priority=6,
                            then_memory={0o2200: result}, then_flags=then_flags)

    def assert_bytes(self, word, s, d, flags, result, then_flags, upper=0o125 * 256):
        with self.subTest(word=oct(word), s=oct(s), d=oct(d), flags=flags):
            # Of s the upper byte doesn't count, and of d it stays.
            self.assert_run([word + 0o0102], registers={1: 0o252 * 256 + s, 2: 0o125 * 256 + d}, flags=flags,
                            then={2: upper + result}, then_flags=then_flags)
            self.assert_run([word + 0o1112], registers={1: 0o2101, 2: 0o2201}, flags=flags,
                            small={0o2100: 0o314, 0o2101: s, 0o2200: 0o314, 0o2201: d, 0o2202: 0o63},
                            then_small={0o2201: result}, then_flags=then_flags)

    def assert_both(self, word, expected, keeps=True, on_bytes=True):
        """expected(s, d, bits) answers the result and N Z V; C stays."""
        for flags, carry in (("", ""), ("NZV", ""), ("C", "C"), ("NZVC", "C")):
            for s in range(5):
                for d in range(5):
                    result, then_flags = expected(WORDS[s], WORDS[d], 16)
                    result = result if keeps else WORDS[d]
                    self.assert_words(word, WORDS[s], WORDS[d], flags, result, then_flags + carry)
                    if on_bytes:
                        result, then_flags = expected(BYTES[s], BYTES[d], 8)
                        result = result if keeps else BYTES[d]
                        self.assert_bytes(word + 0o100000, BYTES[s], BYTES[d], flags, result, then_flags + carry)


class LogicTest(TwoOperandsCase):
    def test_bit(self):
        self.assert_both(BIT, lambda s, d, bits: (s & d, n_and_z(s & d, bits)), keeps=False)

    def test_bic(self):
        self.assert_both(BIC, lambda s, d, bits: (d - (s & d), n_and_z(d - (s & d), bits)))

    def test_bis(self):
        self.assert_both(BIS, lambda s, d, bits: (s + d - (s & d), n_and_z(s + d - (s & d), bits)))

    def test_other_bits(self):
        self.assert_words(BIT, 0o1234, 0o7070, "", 0o7070, "")
        self.assert_words(BIC, 0o1234, 0o7070, "NZVC", 0o6040, "C")
        self.assert_words(BIS, 0o1234, 0o7070, "NZVC", 0o7274, "C")
        self.assert_bytes(BITB, 0o360, 0o14, "", 0o14, "Z")
        self.assert_bytes(BICB, 0o360, 0o314, "N", 0o14, "")
        self.assert_bytes(BISB, 0o360, 0o14, "", 0o374, "N")


class MovTest(TwoOperandsCase):
    def test_mov(self):
        self.assert_both(MOV, lambda s, d, bits: (s, n_and_z(s, bits)), on_bytes=False)

    def test_movb_to_a_register_fills_its_upper_byte(self):
        rows = [(0, 0, "Z"), (1, 1, ""), (0o377, 0o177777, "N"), (0o177, 0o177, ""), (0o200, 0o177600, "N")]
        for s, result, then_flags in rows:
            for d in WORDS:
                for flags, carry in (("", ""), ("NZV", ""), ("C", "C"), ("NZVC", "C")):
                    with self.subTest(s=oct(s), d=oct(d), flags=flags):
                        self.assert_run([0o110102], registers={1: 0o252 * 256 + s, 2: d}, flags=flags,
                                        then={2: result}, then_flags=then_flags + carry)
                        self.assert_run([0o111102], registers={1: 0o2101, 2: d}, small={0o2101: s}, flags=flags,
                                        then={2: result}, then_flags=then_flags + carry)

    def test_each_register(self):
        for r in range(7):
            s = (r + 1) % 6
            self.assert_run([0o010000 + s * 64 + r], registers={s: 0o123321}, then={r: 0o123321}, then_flags="N")
            self.assert_run([0o110000 + s * 64 + r], registers={s: 0o123321}, then={r: 0o177721}, then_flags="N")
            self.assert_run([0o150000 + s * 64 + r], registers={s: 0o123321, r: 0o4002}, then={r: 0o4323},
                            then_flags="N")

    def test_movb_to_memory(self):
        rows = [(0, "Z"), (1, ""), (0o377, "N"), (0o177, ""), (0o200, "N")]
        for s, then_flags in rows:
            for at in (0o2200, 0o2201):
                for flags, carry in (("", ""), ("NZV", ""), ("NZVC", "C")):
                    with self.subTest(s=oct(s), at=oct(at), flags=flags):
                        self.assert_run([0o110112], registers={1: 0o252 * 256 + s, 2: at}, flags=flags,
                                        small={at - 1: 0o314, at: 0o63, at + 1: 0o314},
                                        then_small={at: s}, then_flags=then_flags + carry)

    def test_movb_to_sp_and_pc(self):
        self.assert_run([0o110106], registers={1: 0o200}, then={6: 0o177600}, then_flags="N")
        self.assert_run([0o110107], registers={1: 0o40}, pc=0o40)
        self.assert_run([0o110107], registers={1: 0o375}, pc=0o177775, then_flags="N")

    def test_movb_to_its_own_register(self):
        self.assert_run([0o110101], registers={1: 0o252 * 256 + 0o200}, then={1: 0o177600}, then_flags="N")


class CmpTest(TwoOperandsCase):
    def test_every_pair(self):
        for flags in ("", "NZVC"):
            for s in range(5):
                for d in range(5):
                    then_flags = compared(WORDS[s], WORDS[d], 16)[1]
                    self.assert_words(CMP, WORDS[s], WORDS[d], flags, WORDS[d], then_flags)
                    then_flags = compared(BYTES[s], BYTES[d], 8)[1]
                    self.assert_bytes(CMPB, BYTES[s], BYTES[d], flags, BYTES[d], then_flags)

    def test_written_out(self):
        rows = [(5, 3, ""), (3, 5, "NC"), (5, 5, "Z"), (0o100000, 1, "V"), (1, 0o100000, "NVC"),
                (0o077777, 0o177777, "NVC"), (0o177777, 0o077777, "N"), (0o100000, 0o077777, "V")]
        for s, d, then_flags in rows:
            self.assert_words(CMP, s, d, "", d, then_flags)
        rows = [(0o200, 1, "V"), (1, 0o200, "NVC"), (0o177, 0o377, "NVC"), (0o377, 0o177, "N"), (0, 1, "NC")]
        for s, d, then_flags in rows:
            self.assert_bytes(CMPB, s, d, "", d, then_flags)


class AddTest(TwoOperandsCase):
    def test_every_pair(self):
        for flags in ("", "NZVC"):
            for s in WORDS:
                for d in WORDS:
                    result, then_flags = added(s, d, 16)
                    self.assert_words(ADD, s, d, flags, result, then_flags)

    def test_written_out(self):
        rows = [(2, 3, 5, ""), (0o177777, 1, 0, "ZC"), (0o077777, 1, 0o100000, "NV"), (0o100000, 0o100000, 0, "ZVC"),
                (0o177777, 0o177777, 0o177776, "NC"), (0o100000, 0o177777, 0o077777, "VC"),
                (0o100000, 0o077777, 0o177777, "N")]
        for s, d, result, then_flags in rows:
            self.assert_words(ADD, s, d, "", result, then_flags)


class SubTest(TwoOperandsCase):
    """With the highest bit set it's still on words."""

    def test_every_pair(self):
        for flags in ("", "NZVC"):
            for s in WORDS:
                for d in WORDS:
                    result, then_flags = compared(d, s, 16)
                    self.assert_words(SUB, s, d, flags, result, then_flags)

    def test_written_out(self):
        rows = [(3, 5, 2, ""), (5, 3, 0o177776, "NC"), (5, 5, 0, "Z"), (1, 0o100000, 0o077777, "V"),
                (0o177777, 0o077777, 0o100000, "NVC"), (0o100000, 0, 0o100000, "NVC"), (0, 0o100000, 0o100000, "N")]
        for s, d, result, then_flags in rows:
            self.assert_words(SUB, s, d, "", result, then_flags)

    def test_steps_are_of_words(self):
        self.assert_run([0o162102], registers={2: 9}, memory={0o2100: 4}, then={1: 0o2102, 2: 5})
        self.assert_odd([0o161102], registers={1: 0o2101})


if __name__ == "__main__":
    unittest.main()
