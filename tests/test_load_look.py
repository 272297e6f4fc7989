"""Promise 2: ms_load and ms_look."""

import unittest

from tests.helper import HIGHEST, LOWEST, asked, first_difference, load, look
from wordrunnerdesk.processor import Processor


class LoadTest(unittest.TestCase):
    def test_ordinary_places(self):
        found = asked(load(512, [1, 2, 3]), load(40001, [4, 5]), look(511, 5), look(40000, 4))
        self.assertEqual(found, [[0], [0], [0, 0, 1, 2, 3, 0], [0, 0, 4, 5, 0]])

    def test_the_later_load_is_what_stays(self):
        found = asked(load(100, [1, 2, 3, 4]), load(101, [9, 8]), look(100, 4))
        self.assertEqual(found, [[0], [0], [0, 1, 9, 8, 4]])

    def test_bytes_0_and_255(self):
        found = asked(load(7, [255, 0, 255]), load(9, [0]), look(7, 3))
        self.assertEqual(found, [[0], [0], [0, 255, 0, 0]])

    def test_no_bytes(self):
        for at in (0, 1, 65535, 65536):
            self.assertEqual(asked(load(at, [])), [[0]])

    def test_no_bytes_change_nothing(self):
        found = asked(load(20, [1, 2]), load(20, []), look(20, 2))
        self.assertEqual(found, [[0], [0], [0, 1, 2]])

    def test_no_bytes_outside(self):
        for at in (LOWEST, -1, 65537, HIGHEST):
            self.assertEqual(asked(load(at, [])), [[-1]])

    def test_up_to_the_end_of_memory(self):
        self.assertEqual(asked(load(65535, [3]), look(65535, 1)), [[0], [0, 3]])
        self.assertEqual(asked(load(65532, [1, 2, 3, 4]), look(65532, 4)), [[0], [0, 1, 2, 3, 4]])
        self.assertEqual(asked(load(65536 - 29000, [6] * 29000)), [[0]])

    def test_one_above_the_end_of_memory(self):
        self.assertEqual(asked(load(65536, [3])), [[-1]])
        self.assertEqual(asked(load(65533, [1, 2, 3, 4])), [[-1]])
        self.assertEqual(asked(load(65537 - 29000, [6] * 29000)), [[-1]])

    def test_at_below_0(self):
        for at in (-1, -2, -3, LOWEST):
            self.assertEqual(asked(load(at, [1, 2])), [[-1]])

    def test_at_the_upper_end_of_an_int(self):
        self.assertEqual(asked(load(HIGHEST, [1])), [[-1]])

    def test_the_whole_memory_and_one_byte_more(self):
        processor = Processor()
        self.assertEqual(processor.load(0, [1] * 65536), 0)
        self.assertIsNone(first_difference(processor.memory, [1] * 65536))
        self.assertEqual(processor.load(0, [2] * 65537), -1)
        self.assertEqual(processor.load(1, [2] * 65536), -1)
        self.assertIsNone(first_difference(processor.memory, [1] * 65536))

    def test_a_refusal_loads_nothing(self):
        for at in (-1, 65533):
            found = asked(load(0, [1, 2]), load(65532, [3, 4, 5, 6]), load(at, [9, 9, 9, 9]),
                          look(0, 4), look(65532, 4))
            self.assertEqual(found, [[0], [0], [-1], [0, 1, 2, 0, 0], [0, 3, 4, 5, 6]])


class LookTest(unittest.TestCase):
    def test_no_length_stands_ahead_of_the_bytes(self):
        self.assertEqual(asked(load(5, [11, 12, 13]), look(5, 3)), [[0], [0, 11, 12, 13]])

    def test_no_bytes(self):
        for at in (0, 1, 65535, 65536):
            self.assertEqual(asked(look(at, 0)), [[0]])

    def test_no_bytes_outside(self):
        for at in (LOWEST, -1, 65537, HIGHEST):
            self.assertEqual(asked(look(at, 0)), [[-1]])

    def test_2000_bytes(self):
        row = [k * 7 % 256 for k in range(2000)]
        for at in (0, 30000, 63536):
            found = asked(load(at, row), look(at, 2000))
            self.assertEqual(found[0], [0])
            self.assertIsNone(first_difference(found[1], [0] + row))
        self.assertEqual(asked(look(63537, 2000)), [[-1]])

    def test_up_to_the_end_of_memory_and_one_above(self):
        self.assertEqual(asked(look(65535, 1)), [[0, 0]])
        self.assertEqual(asked(look(65536, 1)), [[-1]])
        self.assertEqual(asked(look(65533, 3)), [[0, 0, 0, 0]])
        self.assertEqual(asked(look(65533, 4)), [[-1]])

    def test_at_below_0(self):
        for at in (-1, -2, -2000, LOWEST):
            self.assertEqual(asked(look(at, 2)), [[-1]])

    def test_n_below_0(self):
        for n in (-1, -2, LOWEST):
            for at in (0, 5, 65536, 65537, -1):
                self.assertEqual(asked(look(at, n)), [[-1]])

    def test_n_above_65536(self):
        for n in (65537, 65538, 131072, HIGHEST):
            for at in (0, 5, 65536, -1, -2):
                self.assertEqual(asked(look(at, n)), [[-1]])

    def test_both_at_the_ends_of_an_int(self):
        for at in (LOWEST, HIGHEST):
            for n in (LOWEST, HIGHEST):
                self.assertEqual(asked(look(at, n)), [[-1]])

    def test_the_sum_alone_does_not_decide(self):
        self.assertEqual(asked(look(-65537, 65537), look(65537, -1)), [[-1], [-1]])


class AsItWasTest(unittest.TestCase):
    def test_a_refusal_or_a_look_changes_nothing(self):
        processor = Processor()
        processor.load(0, [k % 256 for k in range(65536)])
        for which in range(16):
            processor.put(which, 4660 + which)
        memory = list(processor.memory)
        registers = list(processor.registers)
        for at, n in ((-1, 3), (65534, 3), (LOWEST, 0), (HIGHEST, 1)):
            self.assertEqual(processor.load(at, [77] * n), -1)
            self.assertEqual(processor.look(at, n), [-1])
        self.assertEqual(processor.look(3, -1), [-1])
        self.assertEqual(processor.look(3, 2), [0, 3, 4])
        self.assertIsNone(first_difference(processor.memory, memory))
        self.assertEqual(processor.registers, registers)

    def test_a_load_changes_no_register(self):
        processor = Processor()
        for which in range(16):
            processor.put(which, 4660 + which)
        registers = list(processor.registers)
        processor.load(0, [77] * 40)
        self.assertEqual(processor.registers, registers)

    def test_what_was_looked_at_is_a_copy(self):
        processor = Processor()
        seen = processor.look(0, 3)
        seen[1] = 99
        self.assertEqual(processor.look(0, 3), [0, 0, 0, 0])


if __name__ == "__main__":
    unittest.main()
