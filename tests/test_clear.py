"""Promise 1: ms_clear."""

import unittest

from tests.helper import ASKED, CLEAR, asked, first_difference, interrupt, load, look, put, run, state_behind, words
from wordrunnerdesk.machine import answers
from wordrunnerdesk.processor import Processor


class ClearTest(unittest.TestCase):
    def test_answers_0(self):
        self.assertEqual(answers([1]), [1, 0])

    def test_memory_is_0_after_it(self):
        for at in range(0, 65536, 2000):
            n = min(2000, 65536 - at)
            self.assertIsNone(first_difference(asked(look(at, n))[0], [0] + [0] * n))

    def test_again_behind_a_load(self):
        row = [7, 8, 9]
        found = asked(load(0, row), load(65533, row), CLEAR, look(0, 4), look(65532, 4))
        self.assertEqual(found, [[0], [0], [0], [0, 0, 0, 0, 0], [0, 0, 0, 0, 0]])

    def test_memory_can_be_loaded_again_behind_it(self):
        found = asked(load(10, [5]), CLEAR, load(11, [6]), look(10, 2))
        self.assertEqual(found, [[0], [0], [0], [0, 0, 6]])

    def test_all_registers_and_all_memory_are_0(self):
        processor = Processor()
        for which in range(16):
            processor.put(which, 65535)
        processor.load(0, [255] * 65536)
        self.assertEqual(processor.wipe(), 0)
        self.assertEqual(processor.registers, [0] * 16)
        self.assertIsNone(first_difference(processor.memory, [0] * 65536))

    def test_again_behind_a_run_and_an_interrupt(self):
        # The instruction pushes R4; the interrupt pushes two words more.
        calls = [put(which, 300) for which in ASKED]
        calls += [load(300, words(0x1204)), put(2, 8), run(1), interrupt(65534), CLEAR]
        found, registers, memory = state_behind(calls)
        self.assertEqual(found[-3:], [[1], [1], [0]])
        self.assertEqual(registers, [0, 0, 0, None] + [0] * 12)
        self.assertIsNone(first_difference(memory, [0] * 65536))


if __name__ == "__main__":
    unittest.main()
