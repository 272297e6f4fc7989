"""Promise 3, ms_set and ms_get, and what the registers keep of a number."""

import unittest

from tests.helper import CLEAR, HIGHEST, LOWEST, asked, first_difference, get, look, put, state_behind
from wordrunnerdesk.processor import Processor

SETTABLE = [0, 1, 2] + list(range(4, 16))
REFUSED = [3, -1, 16, -2, 17, 19, LOWEST, HIGHEST, 65536, -65536]

# Each value with what PC and SP, SR, and the others keep of it.
KEPT = [
    (0, 0, 0, 0),
    (1, 0, 1, 1),
    (2, 2, 2, 2),
    (256, 256, 256, 256),
    (511, 510, 511, 511),
    (512, 512, 0, 512),
    (32768, 32768, 0, 32768),
    (65534, 65534, 510, 65534),
    (65535, 65534, 511, 65535),
    (65536, 0, 0, 0),
    (65537, 0, 1, 1),
    (-1, 65534, 511, 65535),
    (-2, 65534, 510, 65534),
    (-65535, 0, 1, 1),
    (-65536, 0, 0, 0),
    (-65537, 65534, 511, 65535),
    (LOWEST, 0, 0, 0),
    (LOWEST + 1, 0, 1, 1),
    (HIGHEST, 65534, 511, 65535),
]


class SetAnswerTest(unittest.TestCase):
    def test_each_that_can_be_set(self):
        for which in SETTABLE:
            self.assertEqual(asked(put(which, 1234)), [[0]])

    def test_each_that_is_refused(self):
        for which in REFUSED:
            self.assertEqual(asked(put(which, 1234)), [[-1]])

    def test_every_value_is_taken(self):
        for row in KEPT:
            for which in SETTABLE:
                self.assertEqual(asked(put(which, row[0])), [[0]])

    def test_no_value_mends_a_refusal(self):
        for row in KEPT:
            for which in REFUSED:
                self.assertEqual(asked(put(which, row[0])), [[-1]])

    def test_memory_stays(self):
        self.assertEqual(asked(put(0, 65535), put(1, 65535), look(65530, 6)),
                         [[0], [0], [0, 0, 0, 0, 0, 0, 0]])


class KeptTest(unittest.TestCase):
    def held(self, which, value):
        """The registers after one ms_set on a new machine."""
        processor = Processor()
        self.assertEqual(processor.put(which, value), 0)
        return processor.registers

    def only(self, which, number):
        registers = [0] * 16
        registers[which] = number
        return registers

    def test_pc_and_sp_lose_the_lowest_bit(self):
        for row in KEPT:
            for which in (0, 1):
                self.assertEqual(self.held(which, row[0]), self.only(which, row[1]))

    def test_sr_keeps_nine_bits(self):
        for row in KEPT:
            self.assertEqual(self.held(2, row[0]), self.only(2, row[2]))

    def test_the_others_keep_sixteen_bits(self):
        for row in KEPT:
            for which in range(4, 16):
                self.assertEqual(self.held(which, row[0]), self.only(which, row[3]))

    def test_r3_is_always_0(self):
        processor = Processor()
        self.assertEqual(processor.put(3, 1), -1)
        processor.keep(3, 65535)
        self.assertEqual(processor.registers, [0] * 16)

    def test_a_refusal_leaves_all_as_it_was(self):
        processor = Processor()
        processor.load(0, [5] * 65536)
        for which in SETTABLE:
            processor.put(which, 100 + 2 * which)
        registers = list(processor.registers)
        for which in REFUSED:
            self.assertEqual(processor.put(which, 9), -1)
        self.assertEqual(processor.registers, registers)
        self.assertIsNone(first_difference(processor.memory, [5] * 65536))

    def test_the_later_value_is_what_stays(self):
        processor = Processor()
        processor.put(4, 65535)
        processor.put(5, 6)
        processor.put(4, 1)
        self.assertEqual(processor.registers[4:6], [1, 6])


class GetTest(unittest.TestCase):
    def test_all_are_0_at_first(self):
        for which in SETTABLE:
            self.assertEqual(asked(get(which)), [[0]])

    def test_each_that_is_refused(self):
        for which in REFUSED:
            self.assertEqual(asked(get(which)), [[-1]])
            self.assertEqual(asked(put(which, 1234), get(which)), [[-1], [-1]])

    def test_what_is_answered_is_the_value_as_it_is_kept(self):
        for row in KEPT:
            for which in SETTABLE:
                kept = row[{0: 1, 1: 1, 2: 2}.get(which, 3)]
                self.assertEqual(asked(put(which, row[0]), get(which)), [[0], [kept]])

    def test_each_has_a_value_of_its_own(self):
        calls = [put(which, 100 + 2 * which) for which in SETTABLE]
        found = asked(*calls, *[get(which) for which in SETTABLE])
        self.assertEqual(found[len(calls):], [[100 + 2 * which] for which in SETTABLE])

    def test_asked_again_it_is_the_same(self):
        self.assertEqual(asked(put(7, 77), get(7), get(7)), [[0], [77], [77]])

    def test_a_set_that_is_refused_changes_none(self):
        calls = [put(which, 100 + 2 * which) for which in SETTABLE] + [put(which, 9) for which in REFUSED]
        found = asked(*calls, *[get(which) for which in SETTABLE])
        self.assertEqual(found[len(calls):], [[100 + 2 * which] for which in SETTABLE])

    def test_a_get_changes_nothing(self):
        before = state_behind([put(4, 5), put(2, 300)])
        after = state_behind([put(4, 5), put(2, 300)] + [get(which) for which in SETTABLE + REFUSED])
        self.assertEqual(after[1], before[1])
        self.assertIsNone(first_difference(after[2], before[2]))

    def test_all_are_0_behind_a_clear(self):
        calls = [put(which, 65535) for which in SETTABLE] + [CLEAR]
        found = asked(*calls, *[get(which) for which in SETTABLE])
        self.assertEqual(found[len(calls):], [[0]] * len(SETTABLE))


if __name__ == "__main__":
    unittest.main()
