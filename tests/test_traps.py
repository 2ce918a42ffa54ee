"""The flags' instructions, 000005, the four that interrupt, and 000002 and 000006 that come back."""

import itertools
import unittest

from tests.calls import RunCase, START, flags_of, status_of

ALL_FLAGS = ["".join(chosen) for k in range(5) for chosen in itertools.combinations("NZVC", k)]


class FlagsTest(RunCase):
    def test_each_word_with_all_flags_clear_and_set(self):
        for word in range(0o000240, 0o000300):
            for flags in ("", "NZVC", "NV", "ZC"):
                with self.subTest(word=oct(word), flags=flags):
                    named = flags_of(word & 15)
                    if word >= 0o000260:
                        expected = [flag for flag in "NZVC" if flag in flags or flag in named]
                    else:
                        expected = [flag for flag in "NZVC" if flag in flags and flag not in named]
                    self.assert_run([word], flags=flags, priority=5, then_flags="".join(expected))

    def test_written_out(self):
        self.assert_run([0o000240], flags="NZVC")
        self.assert_run([0o000241], flags="NZVC", then_flags="NZV")
        self.assert_run([0o000242], flags="NZVC", then_flags="NZC")
        self.assert_run([0o000244], flags="NZVC", then_flags="NVC")
        self.assert_run([0o000250], flags="NZVC", then_flags="ZVC")
        self.assert_run([0o000257], flags="NZVC", then_flags="")
        self.assert_run([0o000260], flags="")
        self.assert_run([0o000261], flags="", then_flags="C")
        self.assert_run([0o000262], flags="", then_flags="V")
        self.assert_run([0o000264], flags="", then_flags="Z")
        self.assert_run([0o000270], flags="", then_flags="N")
        self.assert_run([0o000277], flags="", then_flags="NZVC")


class NothingTest(RunCase):
    def test_000005(self):
        for flags in ALL_FLAGS:
            self.assert_run([0o000005], flags=flags, priority=6)


class TrapTest(RunCase):
    # The vectors hold eight words that are all different.
    VECTORS = {0o14: 0o4100, 0o16: 0o341, 0o20: 0o4200, 0o22: 0o302, 0o24: 0o4300, 0o26: 0o244,
               0o30: 0o4400, 0o32: 0o210, 0o34: 0o4500, 0o36: 0o157}

    def assert_trap(self, word, pc, status, **given):
        self.assert_run([word], memory=self.VECTORS, pc=pc, then_flags=flags_of(status), then_priority=status >> 5,
                        **given)

    def test_the_four_vectors(self):
        for flags in ("", "NZVC", "NV"):
            for priority in (0, 5, 7):
                pushed = {0o2776: status_of(flags, priority), 0o2774: START + 2}
                given = {"flags": flags, "priority": priority, "then": {6: 0o2774}, "then_memory": pushed}
                self.assert_trap(0o000003, 0o4100, 0o341, **given)
                self.assert_trap(0o000004, 0o4200, 0o302, **given)
                self.assert_trap(0o104000, 0o4400, 0o210, **given)
                self.assert_trap(0o104400, 0o4500, 0o157, **given)

    def test_every_word_of_the_last_two(self):
        for lower in range(0, 256):
            given = {"then": {6: 0o2774}, "then_memory": {0o2776: 0, 0o2774: START + 2}}
            self.assert_trap(0o104000 + lower, 0o4400, 0o210, **given)
            self.assert_trap(0o104400 + lower, 0o4500, 0o157, **given)

    def test_other_bits_of_the_status_word_are_not_looked_at(self):
        self.assert_run([0o000004], memory={0o20: 0o4000, 0o22: 65535}, pc=0o4000, then={6: 0o2774},
                        then_memory={0o2776: 0, 0o2774: START + 2}, then_flags="NZVC", then_priority=7)
        self.assert_run([0o000004], flags="NZVC", priority=7, memory={0o20: 0o4000, 0o22: 65535 - 0o357}, pc=0o4000,
                        then={6: 0o2774}, then_memory={0o2776: 0o357, 0o2774: START + 2}, then_flags="",
                        then_priority=0)

    def test_to_an_odd_place(self):
        # It's done: it's the next that can't be.
        self.assert_run([0o000004], memory={0o20: 0o4001, 0o22: 0}, n=5, done=1, why=4, pc=0o4001, then={6: 0o2774},
                        then_memory={0o2776: 0, 0o2774: START + 2})

    def test_the_stack_goes_round(self):
        self.assert_run([0o000004], registers={6: 2}, flags="C", memory={0o20: 0o4000}, pc=0o4000, then={6: 65534},
                        then_memory={0: 1, 65534: START + 2}, then_flags="")

    def test_pushed_before_the_vector_is_taken(self):
        # The stack comes down on the vector itself: PC stays, and the status word too.
        self.assert_run([0o000004], registers={6: 0o24}, flags="NC", priority=3, memory={0o20: 7, 0o22: 7},
                        then={6: 0o20}, then_memory={0o20: START + 2, 0o22: 0o151})

    def test_the_stack_at_an_odd_place(self):
        for word in (0o000003, 0o000004, 0o104000, 0o104377, 0o104400, 0o104777):
            self.assert_odd([word], registers={6: 0o3001}, memory=self.VECTORS, priority=4)
            self.assert_odd([word], registers={6: 1}, memory=self.VECTORS, priority=4)


class ReturnTest(RunCase):
    def test_pc_then_the_status_word(self):
        for word in (0o000002, 0o000006):
            for status in (0, 0o357, 0o140, 0o251, 8, 4, 2, 1):
                for flags, priority in (("", 0), ("NZVC", 7), ("ZC", 3)):
                    with self.subTest(word=word, status=oct(status), flags=flags):
                        self.assert_run([word], memory={0o3000: 0o4000, 0o3002: status}, flags=flags,
                                        priority=priority, pc=0o4000, then={6: 0o3004},
                                        then_flags=flags_of(status), then_priority=status >> 5)

    def test_other_bits_of_the_status_word_are_not_looked_at(self):
        for word in (0o000002, 0o000006):
            self.assert_run([word], memory={0o3000: 0o4000, 0o3002: 65535}, pc=0o4000, then={6: 0o3004},
                            then_flags="NZVC", then_priority=7)

    def test_to_an_odd_place(self):
        for word in (0o000002, 0o000006):
            self.assert_run([word], memory={0o3000: 0o4001, 0o3002: 1}, n=5, done=1, why=4, pc=0o4001,
                            then={6: 0o3004}, then_flags="C")

    def test_the_stack(self):
        for word in (0o000002, 0o000006):
            self.assert_odd([word], registers={6: 0o3001}, priority=4)
            self.assert_run([word], registers={6: 65534}, memory={65534: 0o4000, 0: 0o341}, pc=0o4000, then={6: 2},
                            then_flags="C", then_priority=7)
            self.assert_run([word], registers={6: 65532}, memory={65532: 0o4000, 65534: 0o341}, pc=0o4000,
                            then={6: 0}, then_flags="C", then_priority=7)

    def test_there_and_back(self):
        # 000004, INC R0, HALT; at 04000 INC R1, 000002
        self.assert_run([0o000004, 0o005200, 0], flags="NV", priority=2, n=9, done=5, why=1,
                        memory={0o20: 0o4000, 0o22: 0o341, 0o4000: 0o005201, 0o4002: 0o000002},
                        then={0: 0o2001, 1: 0o2101}, then_flags="",
                        then_memory={0o2776: 0o112, 0o2774: START + 2})


if __name__ == "__main__":
    unittest.main()
