"""Promise 5: ms_interrupt."""

import unittest

from tests.helper import (ALL_BUT_STOPPED, HIGHEST, LOWEST, PC, SP, SR, asked, first_difference, flags, get, interrupt,
                          load, one, put, run, state_behind, two, words)

REFUSED = [LOWEST, LOWEST + 1, -2, -1, 0, 1, 2, 65470, 65471, 65536, 65537, 65538, HIGHEST - 1, HIGHEST,
           65472 - 65536, 65472 + 65536, 65534 + 65536]
REFUSED += list(range(65473, 65536, 2))
TAKEN = list(range(65472, 65536, 2))
ALLOWED = flags("I")


class AnswerTest(unittest.TestCase):
    def test_refused_whether_allowed_or_not(self):
        for vector in REFUSED:
            for status in (0, ALLOWED, ALL_BUT_STOPPED, 511 - ALLOWED, 511):
                self.assertEqual(asked(put(SR, status), interrupt(vector)), [[0], [-1]])

    def test_not_allowed(self):
        for vector in TAKEN:
            for status in (0, flags("CZNV"), flags("S"), 511 - ALLOWED):
                self.assertEqual(asked(put(SR, status), interrupt(vector)), [[0], [0]])

    def test_allowed(self):
        for vector in TAKEN:
            for status in (ALLOWED, flags("IS"), ALL_BUT_STOPPED, 511):
                self.assertEqual(asked(put(SR, status), interrupt(vector)), [[0], [1]])


class StateTest(unittest.TestCase):
    def behind(self, calls):
        found, registers, memory = state_behind(calls)
        return found[-1], registers, memory

    def check(self, calls, vector, answer, new_registers, new_memory):
        """All is as it was behind the interrupt, but what is told as new."""
        registers, memory = self.behind(calls)[1:]
        for which, value in new_registers.items():
            registers[which] = value
        for at, row in new_memory.items():
            memory[at:at + len(row)] = row
        found = self.behind(calls + [interrupt(vector)])
        self.assertEqual(found[0], [answer])
        self.assertEqual(found[1], registers)
        self.assertIsNone(first_difference(found[2], memory))

    def machine(self, status, stack=1000, pc=0x1234):
        calls = [load(990, [7] * 20), load(65472, words(*[0x4001 + 256 * k for k in range(32)]))]
        calls += [put(which, 300 + which) for which in range(4, 16)]
        return calls + [put(PC, pc), put(SP, stack), put(SR, status)]

    def test_a_refusal_leaves_all_as_it_was(self):
        for vector in (65470, 65471, 65473, 65535, 65536, -64, LOWEST, HIGHEST):
            for status in (0, ALLOWED, 511):
                self.check(self.machine(status), vector, -1, {}, {})

    def test_not_allowed_all_is_as_it_was(self):
        for vector in (65472, 65500, 65534):
            for status in (0, 511 - ALLOWED, flags("S")):
                self.check(self.machine(status), vector, 0, {}, {})

    def test_pc_and_then_sr_are_pushed(self):
        for k, vector in enumerate(TAKEN):
            for status in (ALLOWED, ALL_BUT_STOPPED):
                # The lowest bit of the word at vector is lost in PC.
                self.check(self.machine(status), vector, 1, {SP: 996, SR: 0, PC: 0x4000 + 256 * k},
                           {998: words(0x1234), 996: words(status)})

    def test_a_stopped_processor_is_stopped_no_more(self):
        self.check(self.machine(511), 65472, 1, {SP: 996, SR: 0, PC: 0x4000}, {998: words(0x1234), 996: words(511)})

    def test_pushes_below_0(self):
        # At 65534 and 65532 lay words of other vectors.
        self.check(self.machine(ALLOWED, stack=0), 65472, 1, {SP: 65532, SR: 0, PC: 0x4000},
                   {65534: words(0x1234), 65532: words(ALLOWED)})
        self.check(self.machine(ALLOWED, stack=2), 65472, 1, {SP: 65534, SR: 0, PC: 0x4000},
                   {0: words(0x1234), 65534: words(ALLOWED)})

    def test_the_pushed_pc_reaches_the_vector(self):
        self.check(self.machine(ALLOWED, stack=0), 65534, 1, {SP: 65532, SR: 0, PC: 0x1234},
                   {65534: words(0x1234), 65532: words(ALLOWED)})
        self.check(self.machine(ALLOWED, stack=65474), 65472, 1, {SP: 65470, SR: 0, PC: 0x1234},
                   {65472: words(0x1234), 65470: words(ALLOWED)})

    def test_the_pushed_sr_reaches_the_vector(self):
        self.check(self.machine(ALL_BUT_STOPPED, stack=2), 65534, 1, {SP: 65534, SR: 0, PC: ALL_BUT_STOPPED - 1},
                   {0: words(0x1234), 65534: words(ALL_BUT_STOPPED)})
        self.check(self.machine(ALLOWED, stack=65476), 65472, 1, {SP: 65472, SR: 0, PC: ALLOWED},
                   {65474: words(0x1234), 65472: words(ALLOWED)})


class ThereAndBackTest(unittest.TestCase):
    def test_behind_it_none_is_allowed(self):
        found = asked(put(SR, 8), interrupt(65472), interrupt(65472), interrupt(65473), get(SP))
        self.assertEqual(found[1:], [[1], [0], [-1], [65532]])

    def test_the_way_back(self):
        # At 8192: R4 becomes 1 more, and then back.
        calls = [load(8192, words(two(5, (3, 1), (4, 0)), 4864)), load(65480, words(8192)), put(PC, 1024),
                 put(SP, 1000), put(SR, ALL_BUT_STOPPED), interrupt(65480), run(2), get(PC), get(SP), get(SR), get(4)]
        self.assertEqual(asked(*calls)[5:], [[1], [2], [1024], [1000], [ALL_BUT_STOPPED], [1]])

    def test_a_stopped_processor_runs_in_it_and_is_stopped_behind_it(self):
        calls = [load(8192, words(4864)), load(65480, words(8192)), load(1024, words(one(4, (4, 0)))), put(PC, 1024),
                 put(SP, 1000), put(SR, 24), run(5), interrupt(65480), run(5), get(PC), get(SR), run(5)]
        self.assertEqual(asked(*calls)[6:], [[0], [1], [1], [1024], [24], [0]])

    def test_an_instruction_may_allow_it(self):
        calls = [load(1024, words(two(13, (2, 3), (2, 0)))), put(PC, 1024), interrupt(65472), run(1), interrupt(65472),
                 get(PC), get(SR)]
        self.assertEqual(asked(*calls)[2:], [[0], [1], [1], [0], [0]])


if __name__ == "__main__":
    unittest.main()
