"""Branches, SOB, JMP, JSR, RTS and MARK."""

import itertools
import unittest

from tests.calls import RunCase, START, USUAL

ALL_FLAGS = ["".join(chosen) for k in range(5) for chosen in itertools.combinations("NZVC", k)]

# By the branch: whether it's taken, by what flags are set.
BRANCHES = {
    0o000400: lambda f: True,
    0o001000: lambda f: "Z" not in f,
    0o001400: lambda f: "Z" in f,
    0o002000: lambda f: ("N" in f) == ("V" in f),
    0o002400: lambda f: ("N" in f) != ("V" in f),
    0o003000: lambda f: "Z" not in f and ("N" in f) == ("V" in f),
    0o003400: lambda f: "Z" in f or ("N" in f) != ("V" in f),
    0o100000: lambda f: "N" not in f,
    0o100400: lambda f: "N" in f,
    0o101000: lambda f: "C" not in f and "Z" not in f,
    0o101400: lambda f: "C" in f or "Z" in f,
    0o102000: lambda f: "V" not in f,
    0o102400: lambda f: "V" in f,
    0o103000: lambda f: "C" not in f,
    0o103400: lambda f: "C" in f,
}


class BranchTest(RunCase):
    def test_each_with_its_flags_both_ways(self):
        for word, is_taken in BRANCHES.items():
            for flags in ALL_FLAGS:
                for lower, distance in ((5, 10), (0o377, -2), (0o200, -256), (0o177, 254)):
                    with self.subTest(word=oct(word), flags=flags, lower=oct(lower)):
                        pc = START + 2 + (distance if is_taken(flags) else 0)
                        self.assert_run([word + lower], flags=flags, pc=pc)

    def test_by_0(self):
        for word in BRANCHES:
            for flags in ("", "NZVC"):
                self.assert_run([word], flags=flags, priority=7)

    def test_places_go_round(self):
        self.assert_run([0o000404], at=65534, pc=8)
        self.assert_run([0o000776], at=0, pc=65534)
        self.assert_run([0o000600], at=0o100, pc=(0o102 - 256) % 65536)


class SobTest(RunCase):
    def test_sob(self):
        for flags in ("", "NZVC"):
            for lower in (0, 1, 5, 63):
                for value, rest in ((2, 1), (0, 65535), (65535, 65534), (32768, 32767), (77, 76)):
                    with self.subTest(value=value, lower=lower):
                        self.assert_run([0o077300 + lower], registers={3: value}, flags=flags, then={3: rest},
                                        pc=START + 2 - 2 * lower)
                self.assert_run([0o077300 + lower], registers={3: 1}, flags=flags, then={3: 0}, pc=START + 2)

    def test_each_register(self):
        for r in range(7):
            self.assert_run([0o077004 + r * 64], registers={r: 9}, then={r: 8}, pc=START - 6)

    def test_pc(self):
        self.assert_run([0o077704], pc=START + 2 - 1 - 8)
        self.assert_run([0o077704], at=65534, pc=65535 - 8)

    def test_a_loop(self):
        # ADD R1, R2; SOB R3, back to it
        self.assert_run([0o060102, 0o077302], registers={1: 5, 2: 0, 3: 10}, n=20, then={2: 50, 3: 0})

    def test_places_go_round(self):
        self.assert_run([0o077305], at=2, pc=65530, then={3: 0o2277})


class JmpTest(RunCase):
    def test_each_way(self):
        for r in range(7):
            value = USUAL[r]
            with self.subTest(r=r):
                self.assert_run([0o000110 + r], pc=value)
                self.assert_run([0o000120 + r], pc=value, then={r: value + 2})
                self.assert_run([0o000130 + r], memory={value: 0o4000}, pc=0o4000, then={r: value + 2})
                self.assert_run([0o000140 + r], pc=value - 2, then={r: value - 2})
                self.assert_run([0o000150 + r], memory={value - 2: 0o4000}, pc=0o4000, then={r: value - 2})
                self.assert_run([0o000160 + r, 6], pc=value + 6)
                self.assert_run([0o000170 + r, 6], memory={value + 6: 0o4000}, pc=0o4000)

    def test_each_way_with_pc(self):
        self.assert_run([0o000117], pc=START + 2)
        self.assert_run([0o000127], pc=START + 2)
        self.assert_run([0o000137, 0o4000], pc=0o4000)
        self.assert_run([0o000147], pc=START)
        self.assert_odd([0o000157])
        self.assert_run([0o000167, 0o100], pc=START + 0o104)
        self.assert_run([0o000177, 0o100], memory={START + 0o104: 0o4000}, pc=0o4000)

    def test_flags_stay(self):
        self.assert_run([0o000137, 0o4000], flags="NZVC", priority=3, pc=0o4000)

    def test_an_odd_place(self):
        for r in range(7):
            value = USUAL[r]
            for way in (0o10, 0o20, 0o40):
                self.assert_odd([0o000100 + way + r], registers={r: 0o4001})
            self.assert_odd([0o000130 + r], memory={value: 0o4001})
            self.assert_odd([0o000150 + r], memory={value - 2: 0o4001})
            self.assert_odd([0o000160 + r, 1])
            self.assert_odd([0o000170 + r, 2], memory={value + 2: 0o4001})
            for way in (0o30, 0o50):
                self.assert_odd([0o000100 + way + r], registers={r: 0o4001})
            self.assert_odd([0o000170 + r, 1])
        self.assert_odd([0o000137, 0o4001])
        self.assert_odd([0o000167, 0o4001])

    def test_a_register_is_no_instruction(self):
        for r in range(8):
            self.assert_no_instruction([0o000100 + r])
        self.assert_no_instruction([0o000101], registers={1: 1})


class JsrTest(RunCase):
    def assert_jsr(self, words, pc, link=5, stack=0o3000, then={}, **given):
        """R is pushed, R becomes PC, and it goes on at pc."""
        behind = START + 2 * len(words)
        pushed = then.get(link, USUAL[link]) if link < 6 else behind
        then = {**then, 6: stack - 2}
        if link < 6:
            then[link] = behind
        self.assert_run(words, pc=pc, then=then, then_memory={stack - 2: pushed}, **given)

    def test_each_way(self):
        for link in (0, 5, 7):
            word = 0o004000 + link * 64
            for r in range(1, 5):
                value = USUAL[r]
                with self.subTest(link=link, r=r):
                    self.assert_jsr([word + 0o10 + r], value, link)
                    self.assert_jsr([word + 0o20 + r], value, link, then={r: value + 2})
                    self.assert_jsr([word + 0o30 + r], 0o4000, link, memory={value: 0o4000}, then={r: value + 2})
                    self.assert_jsr([word + 0o40 + r], value - 2, link, then={r: value - 2})
                    self.assert_jsr([word + 0o50 + r], 0o4000, link, memory={value - 2: 0o4000}, then={r: value - 2})
                    self.assert_jsr([word + 0o60 + r, 6], value + 6, link)
                    self.assert_jsr([word + 0o70 + r, 6], 0o4000, link, memory={value + 6: 0o4000})

    def test_each_way_with_pc(self):
        for link in (0, 5, 7):
            word = 0o004000 + link * 64
            self.assert_jsr([word + 0o17], START + 2, link)
            self.assert_jsr([word + 0o37, 0o4000], 0o4000, link)
            self.assert_jsr([word + 0o67, 0o100], START + 0o104, link)
            self.assert_jsr([word + 0o77, 0o100], 0o4000, link, memory={START + 0o104: 0o4000})
            # Way 2: PC goes on by 2 before it becomes R's.
            pushed = START + 4 if link == 7 else USUAL[link]
            linked = {} if link == 7 else {link: START + 4}
            self.assert_run([word + 0o27], pc=START + 2, then={6: 0o2776, **linked}, then_memory={0o2776: pushed})
            pushed = START if link == 7 else USUAL[link]
            linked = {} if link == 7 else {link: START}
            self.assert_run([word + 0o47], pc=START, then={6: 0o2776, **linked}, then_memory={0o2776: pushed})

    def test_each_register(self):
        for link in range(6):
            self.assert_jsr([0o004037 + link * 64, 0o4000], 0o4000, link, flags="NZVC", priority=2)

    def test_r_is_also_what_tells_the_place(self):
        # R is pushed as it is when the place has been told.
        self.assert_jsr([0o004121], 0o2100, 1, then={1: 0o2102})
        self.assert_jsr([0o004141], 0o2076, 1, then={1: 0o2076})
        self.assert_jsr([0o004111], 0o2100, 1)

    def test_the_place_is_told_before_the_push(self):
        # JSR PC, @(SP)+ changes PC with the word on the stack.
        self.assert_run([0o004736], memory={0o3000: 0o4000}, pc=0o4000, then_memory={0o3000: START + 2})
        self.assert_run([0o004716], pc=0o3000, then={6: 0o2776}, then_memory={0o2776: START + 2})
        self.assert_run([0o004776, 0], memory={0o3000: 0o4000}, pc=0o4000, then={6: 0o2776},
                        then_memory={0o2776: START + 4})
        self.assert_run([0o004746], pc=0o2776, then={6: 0o2774}, then_memory={0o2774: START + 2})

    def test_sp(self):
        # SP is pushed as it was, and then becomes PC.
        self.assert_run([0o004637, 0o4000], pc=0o4000, then={6: START + 4}, then_memory={0o2776: 0o3000})

    def test_the_stack_goes_round(self):
        self.assert_run([0o004737, 0o4000], registers={6: 0}, pc=0o4000, then={6: 65534},
                        then_memory={65534: START + 4})

    def test_an_odd_place(self):
        for word in (0o004500, 0o004700, 0o004600):
            self.assert_odd([word + 0o37, 0o4001])
            self.assert_odd([word + 0o11], registers={1: 0o4001})
            self.assert_odd([word + 0o21], registers={1: 0o4001})
            self.assert_odd([word + 0o31], registers={1: 0o4001})
            self.assert_odd([word + 0o31], memory={0o2100: 0o4001})
            self.assert_odd([word + 0o41], registers={1: 0o4001})
            self.assert_odd([word + 0o51], memory={0o2076: 0o4001})
            self.assert_odd([word + 0o61, 1])
            self.assert_odd([word + 0o71, 2], memory={0o2102: 0o4001})
            self.assert_odd([word + 0o37, 0o4000], registers={6: 0o3001})

    def test_a_register_is_no_instruction(self):
        for link in range(8):
            for r in range(8):
                self.assert_no_instruction([0o004000 + link * 64 + r])
        self.assert_no_instruction([0o004701], registers={1: 1, 6: 1})


class RtsTest(RunCase):
    def test_each_register(self):
        for r in range(6):
            self.assert_run([0o000200 + r], memory={0o3000: 0o4242}, flags="NZVC", priority=1, pc=USUAL[r],
                            then={r: 0o4242, 6: 0o3002})

    def test_pc(self):
        self.assert_run([0o000207], memory={0o3000: 0o4242}, pc=0o4242, then={6: 0o3002})

    def test_sp(self):
        # PC becomes SP, and then SP the word that's pulled.
        self.assert_run([0o000206], memory={0o3000: 0o4242}, pc=0o3000, then={6: 0o4242})

    def test_to_an_odd_place(self):
        # It's done: it's the next that can't be.
        self.assert_run([0o000201], registers={1: 0o4001}, memory={0o3000: 7}, n=5, done=1, why=4, pc=0o4001,
                        then={1: 7, 6: 0o3002})
        self.assert_run([0o000207], memory={0o3000: 0o4001}, n=5, done=1, why=4, pc=0o4001, then={6: 0o3002})

    def test_the_stack_at_an_odd_place(self):
        for r in range(8):
            self.assert_odd([0o000200 + r], registers={6: 0o3001})

    def test_the_stack_goes_round(self):
        self.assert_run([0o000205], registers={6: 65534}, memory={65534: 0o4242}, pc=0o2500, then={5: 0o4242, 6: 0})

    def test_there_and_back(self):
        # JSR R5, @#1010; INC R0; HALT; 1010: INC R1; RTS R5
        words = [0o004537, 0o1010, 0o005200, 0, 0o005201, 0o000205]
        self.assert_run(words, n=9, done=5, why=1, pc=0o1010, then={0: 0o2001, 1: 0o2101},
                        then_memory={0o2776: 0o2500})


class MarkTest(RunCase):
    def test_mark(self):
        for nn in (0, 1, 5, 63):
            stack = START + 2 + 2 * nn
            with self.subTest(nn=nn):
                self.assert_run([0o006400 + nn], memory={stack: 0o4242}, flags="NZVC", pc=0o2500,
                                then={5: 0o4242, 6: stack + 2})

    def test_sp_may_have_been_odd(self):
        self.assert_run([0o006402], registers={6: 0o3001}, memory={START + 6: 7}, pc=0o2500,
                        then={5: 7, 6: START + 0o10})

    def test_r5_may_be_odd(self):
        self.assert_run([0o006402], registers={5: 0o4001}, memory={START + 6: 7}, n=5, done=1, why=4, pc=0o4001,
                        then={5: 7, 6: START + 0o10})

    def test_places_go_round(self):
        self.assert_run([0o006403], at=65530, memory={2: 0o4242}, pc=0o2500, then={5: 0o4242, 6: 4})
        self.assert_run([0o006401], at=65530, memory={65534: 0o4242}, pc=0o2500, then={5: 0o4242, 6: 0})


if __name__ == "__main__":
    unittest.main()
