"""The eight ways to tell an operand: each register, words and bytes, places that go round, odd places."""

import unittest

from tests.calls import RunCase, START, USUAL

INC, INCB = 0o005200, 0o105200

# What INC makes of these words shows the whole of a word, of INCB the one byte.
OLD, NEW = 0o012777, 0o013000
OLD_BYTE, NEW_BYTE = 0o41, 0o42


class EachRegisterTest(RunCase):
    """R0 to R5 and SP."""

    def each(self):
        for r in range(7):
            with self.subTest(r=r):
                yield r, USUAL[r], 1 if r < 6 else 2

    def test_way_0(self):
        for r, value, step in self.each():
            self.assert_run([INC + r], registers={r: OLD}, then={r: NEW})
            self.assert_run([INCB + r], registers={r: 0o123377}, then={r: 0o123000}, then_flags="Z")

    def test_way_1(self):
        for r, value, step in self.each():
            self.assert_run([INC + 0o10 + r], memory={value: OLD}, then_memory={value: NEW})
            for at in (value, value + 1):
                self.assert_run([INCB + 0o10 + r], registers={r: at}, small={at: OLD_BYTE}, then_small={at: NEW_BYTE})

    def test_way_2(self):
        for r, value, step in self.each():
            self.assert_run([INC + 0o20 + r], memory={value: OLD}, then={r: value + 2}, then_memory={value: NEW})
            for at in (value, value + 1):
                self.assert_run([INCB + 0o20 + r], registers={r: at}, small={at: OLD_BYTE},
                                then={r: at + step}, then_small={at: NEW_BYTE})

    def test_way_3(self):
        for r, value, step in self.each():
            self.assert_run([INC + 0o30 + r], memory={value: 0o4000, 0o4000: OLD},
                            then={r: value + 2}, then_memory={0o4000: NEW})
            for at in (0o4000, 0o4001):
                self.assert_run([INCB + 0o30 + r], memory={value: at}, small={at: OLD_BYTE},
                                then={r: value + 2}, then_small={at: NEW_BYTE})

    def test_way_4(self):
        for r, value, step in self.each():
            self.assert_run([INC + 0o40 + r], memory={value - 2: OLD, value: 7},
                            then={r: value - 2}, then_memory={value - 2: NEW})
            for at in (value, value + 1):
                self.assert_run([INCB + 0o40 + r], registers={r: at}, small={at - step: OLD_BYTE},
                                then={r: at - step}, then_small={at - step: NEW_BYTE})

    def test_way_5(self):
        for r, value, step in self.each():
            self.assert_run([INC + 0o50 + r], memory={value - 2: 0o4000, 0o4000: OLD},
                            then={r: value - 2}, then_memory={0o4000: NEW})
            for at in (0o4000, 0o4001):
                self.assert_run([INCB + 0o50 + r], memory={value - 2: at}, small={at: OLD_BYTE},
                                then={r: value - 2}, then_small={at: NEW_BYTE})

    def test_way_6(self):
        for r, value, step in self.each():
            for more in (0, 6, -6):
                self.assert_run([INC + 0o60 + r, more % 65536], memory={value + more: OLD},
                                then_memory={value + more: NEW})
            for more in (0, 5, -5):
                self.assert_run([INCB + 0o60 + r, more % 65536], small={value + more: OLD_BYTE},
                                then_small={value + more: NEW_BYTE})
            # Only the sum has to be even.
            self.assert_run([INC + 0o60 + r, 3], registers={r: 0o4001}, memory={0o4004: OLD}, then_memory={0o4004: NEW})

    def test_way_7(self):
        for r, value, step in self.each():
            for more in (0, 6, -6):
                self.assert_run([INC + 0o70 + r, more % 65536], memory={value + more: 0o4000, 0o4000: OLD},
                                then_memory={0o4000: NEW})
                self.assert_run([INCB + 0o70 + r, more % 65536], memory={value + more: 0o4001},
                                small={0o4001: OLD_BYTE}, then_small={0o4001: NEW_BYTE})


class PcTest(RunCase):
    def test_way_0(self):
        self.assert_run([INC + 7], pc=START + 3)
        self.assert_run([INCB + 7], pc=START + 3)
        self.assert_run([INCB + 7], at=0o376, pc=0o401)
        self.assert_run([0o105307], at=0o376, pc=0o777, then_flags="N")         # DECB PC: 0400 becomes 0777

    def test_way_1(self):
        self.assert_run([INC + 0o17], memory={START + 2: OLD}, then_memory={START + 2: NEW})
        self.assert_run([INCB + 0o17], small={START + 2: OLD_BYTE}, then_small={START + 2: NEW_BYTE})

    def test_way_2(self):
        self.assert_run([INC + 0o27, OLD], then_memory={START + 2: NEW})
        self.assert_run([INCB + 0o27, OLD_BYTE], then_small={START + 2: NEW_BYTE})

    def test_way_3(self):
        self.assert_run([INC + 0o37, 0o4000], memory={0o4000: OLD}, then_memory={0o4000: NEW})
        self.assert_run([INCB + 0o37, 0o4001], small={0o4001: OLD_BYTE}, then_small={0o4001: NEW_BYTE})

    def test_way_4(self):
        # It's the instruction itself.
        self.assert_run([INC + 0o47], pc=START, then_memory={START: INC + 0o50})
        self.assert_run([INCB + 0o47], pc=START, then_small={START: (INCB + 0o50) & 255}, then_flags="N")

    def test_way_5(self):
        # The instruction itself is the word that says the place.
        self.assert_odd([INC + 0o57])
        self.assert_run([INCB + 0o57], small={INCB + 0o57: OLD_BYTE}, pc=START, then_small={INCB + 0o57: NEW_BYTE})
        self.assert_run([0o015700], memory={0o015700: OLD}, pc=START, then={0: OLD})

    def test_way_6(self):
        for more in (0, 6, 0o3000, -6):
            place = START + 4 + more
            self.assert_run([INC + 0o67, more % 65536], memory={place: OLD}, then_memory={place: NEW})
            self.assert_run([INCB + 0o67, (more + 1) % 65536], small={place + 1: OLD_BYTE},
                            then_small={place + 1: NEW_BYTE})

    def test_way_7(self):
        for more in (0, 6, 0o3000, -6):
            place = START + 4 + more
            self.assert_run([INC + 0o77, more % 65536], memory={place: 0o5000, 0o5000: OLD},
                            then_memory={0o5000: NEW})
            self.assert_run([INCB + 0o77, more % 65536], memory={place: 0o5001}, small={0o5001: OLD_BYTE},
                            then_small={0o5001: NEW_BYTE})

    def test_bytes_taken_behind_the_instruction(self):
        self.assert_run([0o112702, 0o125], then={2: 0o125})                      # MOVB #125, R2
        self.assert_run([0o122727, 0o377 * 256 + 5, 5], then_flags="Z")          # CMPB #5, #5


class BothOperandsTest(RunCase):
    def test_a_word_more_of_each(self):
        # MOV 2(R1), 4(R2)
        self.assert_run([0o016162, 2, 4], memory={0o2102: OLD}, then_memory={0o2204: OLD})
        # MOV #, @#
        self.assert_run([0o012737, OLD, 0o4000], then_memory={0o4000: OLD})
        # ADD from and to places that are counted from PC: each behind its own word.
        self.assert_run([0o066767, 0o100, 0o200], memory={START + 0o104: 3, START + 0o206: 4},
                        then_memory={START + 0o206: 7})
        # MOVB @2(R1), @4(R2)
        self.assert_run([0o117172, 2, 4], memory={0o2102: 0o4001, 0o2204: 0o4003}, small={0o4001: OLD_BYTE},
                        then_small={0o4003: OLD_BYTE})

    def test_a_word_more_of_the_second_alone(self):
        self.assert_run([0o010162, 4], then_memory={0o2204: 0o2100})

    def test_a_word_more_of_the_first_alone(self):
        self.assert_run([0o016112, 4], memory={0o2104: OLD}, then_memory={0o2200: OLD})

    def test_every_pair_of_ways(self):
        for way_s in range(8):
            for way_d in range(8):
                with self.subTest(s=way_s, d=way_d):
                    self.assert_pair(way_s, way_d)

    def assert_pair(self, way_s, way_d):
        """ADD of 30 to 12: s lies at 04000 and d at 05000, whatever the way (but in R1 and R2 with way 0)."""
        registers, memory, words, then, then_memory = {}, {}, [0o060102 + way_s * 0o1000 + way_d * 0o10], {}, {}
        for way, r, place, value in ((way_s, 1, 0o4000, 30), (way_d, 2, 0o5000, 12)):
            base = place if way in (1, 2, 4, 6) else 0o6000 + 0o100 * r
            registers[r] = value if way == 0 else base + (2 if way in (4, 5) else -6 if way in (6, 7) else 0)
            if way:
                memory[place] = value
                then[r] = registers[r] + (2 if way in (2, 3) else -2 if way in (4, 5) else 0)
            if way in (3, 5, 7):
                memory[base] = place
            if way in (6, 7):
                words.append(6)
        if way_d:
            then_memory[0o5000] = 42
        else:
            then[2] = 42
        self.assert_run(words, registers=registers, memory=memory, then=then, then_memory=then_memory)


class OneRegisterForBothTest(RunCase):
    def test_stepped_twice(self):
        # CMP (R1)+, (R1)+ and CMPB (R1)+, (R1)+
        self.assert_run([0o022121], memory={0o2100: 5, 0o2102: 3}, then={1: 0o2104})
        self.assert_run([0o122121], small={0o2100: 5, 0o2101: 3}, then={1: 0o2102})
        self.assert_run([0o024141], memory={0o2076: 5, 0o2074: 3}, then={1: 0o2074})
        self.assert_run([0o122626], small={0o3000: 5, 0o3002: 3}, then={6: 0o3004})
        self.assert_run([0o012141], memory={0o2100: OLD}, then={1: 0o2100})

    def test_the_first_is_taken_before_the_second_is_told(self):
        self.assert_run([0o010121], then={1: 0o2102}, then_memory={0o2100: 0o2100})        # MOV R1, (R1)+
        self.assert_run([0o010141], then={1: 0o2076}, then_memory={0o2076: 0o2100})        # MOV R1, -(R1)
        self.assert_run([0o010131], memory={0o2100: 0o4000}, then={1: 0o2102}, then_memory={0o4000: 0o2100})
        self.assert_run([0o010151], memory={0o2076: 0o4000}, then={1: 0o2076}, then_memory={0o4000: 0o2100})
        self.assert_run([0o010161, 4], then_memory={0o2104: 0o2100})
        self.assert_run([0o110121], then={1: 0o2101}, then_small={0o2100: 0o100})          # MOVB R1, (R1)+

    def test_the_second_is_told_behind_the_first(self):
        self.assert_run([0o062101], memory={0o2100: 3}, then={1: 0o2105})                  # ADD (R1)+, R1
        self.assert_run([0o064101], memory={0o2076: 3}, then={1: 0o2101})                  # ADD -(R1), R1
        self.assert_run([0o012101], memory={0o2100: OLD}, then={1: OLD})                   # MOV (R1)+, R1
        self.assert_run([0o012111], memory={0o2100: OLD}, then={1: 0o2102}, then_memory={0o2102: OLD})
        self.assert_run([0o060101], then={1: 0o4200})                                      # ADD R1, R1

    def test_pc_for_both(self):
        self.assert_run([0o010762, 4], then_memory={0o2204: START + 2})                    # MOV PC, 4(R2)
        self.assert_run([0o010767, 4], then_memory={START + 0o10: START + 2})              # MOV PC, by PC
        self.assert_run([0o016707, 4], memory={START + 0o10: 0o4000}, pc=0o4000)           # MOV by PC, PC
        self.assert_run([0o062707, 0o100], pc=START + 0o104)                               # ADD #100, PC
        self.assert_run([0o010746], then={6: 0o2776}, then_memory={0o2776: START + 2})     # MOV PC, -(SP)


class RoundTest(RunCase):
    """Places and registers go round at 65536."""

    def test_words(self):
        self.assert_run([INC + 0o21], registers={1: 65534}, memory={65534: OLD}, then={1: 0}, then_memory={65534: NEW})
        self.assert_run([INC + 0o41], registers={1: 0}, memory={65534: OLD}, then={1: 65534}, then_memory={65534: NEW})
        self.assert_run([INC + 0o31], registers={1: 65534}, memory={65534: 0o4000, 0o4000: OLD},
                        then={1: 0}, then_memory={0o4000: NEW})
        self.assert_run([INC + 0o51], registers={1: 0}, memory={65534: 0o4000, 0o4000: OLD},
                        then={1: 65534}, then_memory={0o4000: NEW})
        self.assert_run([INC + 0o61, 4], registers={1: 65534}, memory={2: OLD}, then_memory={2: NEW})
        self.assert_run([INC + 0o61, 65535], registers={1: 65535}, memory={65534: OLD}, then_memory={65534: NEW})
        self.assert_run([INC + 0o71, 4], registers={1: 65534}, memory={2: 0o4000, 0o4000: OLD},
                        then_memory={0o4000: NEW})
        self.assert_run([INC + 0o67, 65536 - START - 4], memory={0: OLD}, then_memory={0: NEW})

    def test_bytes(self):
        self.assert_run([INCB + 0o21], registers={1: 65535}, small={65535: OLD_BYTE},
                        then={1: 0}, then_small={65535: NEW_BYTE})
        self.assert_run([INCB + 0o41], registers={1: 0}, small={65535: OLD_BYTE},
                        then={1: 65535}, then_small={65535: NEW_BYTE})
        self.assert_run([INCB + 0o26], registers={6: 65535}, small={65535: OLD_BYTE},
                        then={6: 1}, then_small={65535: NEW_BYTE})
        self.assert_run([INCB + 0o46], registers={6: 1}, small={65535: OLD_BYTE},
                        then={6: 65535}, then_small={65535: NEW_BYTE})
        self.assert_run([INCB + 0o61, 1], registers={1: 65535}, small={0: OLD_BYTE}, then_small={0: NEW_BYTE})
        self.assert_run([INCB + 0o31], registers={1: 65534}, memory={65534: 65535},
                        then={1: 0}, then_small={65535: 0}, then_flags="Z")

    def test_the_last_word(self):
        self.assert_run([0o011102], registers={1: 65534}, memory={65534: OLD}, then={2: OLD})
        self.assert_run([0o010211], registers={1: 65534}, then_memory={65534: 0o2200})
        self.assert_odd([0o011102], registers={1: 65535})


class OddTest(RunCase):
    def test_a_word_at_an_odd_place(self):
        for r in range(7):
            for way in (0o10, 0o20, 0o40):
                self.assert_odd([INC + way + r], registers={r: 0o4001})
            self.assert_odd([INC + 0o60 + r, 1])
        self.assert_odd([INC + 0o37, 0o4001])
        self.assert_odd([INC + 0o67, 0o4001])

    def test_a_word_that_says_an_odd_place(self):
        for r in range(7):
            value = USUAL[r]
            self.assert_odd([INC + 0o30 + r], memory={value: 0o4001})
            self.assert_odd([INC + 0o50 + r], memory={value - 2: 0o4001})
            self.assert_odd([INC + 0o70 + r, 4], memory={value + 4: 0o4001})

    def test_a_word_that_says_the_place_at_an_odd_place(self):
        for word in (INC, INCB):
            for r in range(7):
                self.assert_odd([word + 0o30 + r], registers={r: 0o4001})
                self.assert_odd([word + 0o50 + r], registers={r: 0o4001})
                self.assert_odd([word + 0o70 + r, 1])
            self.assert_odd([word + 0o77, 1])

    def test_of_two_operands(self):
        for word in (0o010000, 0o110000, 0o060000, 0o160000, 0o020000, 0o120000):
            self.assert_odd([word + 0o3102], registers={1: 0o2101})
            self.assert_odd([word + 0o5102], registers={1: 0o2101})
            self.assert_odd([word + 0o7102, 1])
            self.assert_odd([word + 0o2132], registers={2: 0o2201})
            self.assert_odd([word + 0o4152], registers={2: 0o2201})
            self.assert_odd([word + 0o6172, 2, 1])

    def test_bytes_stand_at_odd_places(self):
        self.assert_run([0o111112], registers={1: 0o2101, 2: 0o2201}, small={0o2101: 7}, then_small={0o2201: 7})


if __name__ == "__main__":
    unittest.main()
