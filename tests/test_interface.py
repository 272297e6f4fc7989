"""The interface: one list of calls, one list of answers."""

import unittest

from tests.helper import asked, first_difference, get, interrupt, jump, load, look, put, run, two, words
from wordrunnerdesk.machine import answers

LINE = [1, 2, 300, 3, 10, 20, 30, 4, 5, -7, 3, 299, 5, 4, 3, 1, 3, -1, 2, 2, 65536, 0, 1, 3, 300, 1]
LINE_ANSWERS = [1, 0, 1, 0, 1, 0, 6, 0, 0, 10, 20, 30, 0, 1, -1, 1, -1, 1, 0, 1, 0, 2, 0, 0]

# All seven calls. At 512: R4 becomes 1 more, R4 is pushed, and a word that is no instruction.
PROGRAM = words(two(5, (3, 1), (4, 0)), 0x1204, 0)
ALL_CALLS = ([1] + load(512, PROGRAM) + put(0, 513) + put(1, 1001) + put(4, 65535 + 7) + get(4) + run(10)
             + look(996, 4) + get(0) + interrupt(65534) + put(2, 8) + interrupt(65535) + interrupt(65534)
             + look(994, 6) + get(0) + get(1) + get(2) + get(3) + run(-1) + run(1) + put(3, 1) + load(-1, [1, 2])
             + look(65536, 1) + [1] + get(4) + look(994, 6))
ALL_CALLS_ANSWERS = ([1, 0] + [1, 0] + [1, 0] + [1, 0] + [1, 0] + [1, 6] + [1, 2]
                     + [5, 0, 0, 0, 7, 0] + [1, 516] + [1, 0] + [1, 0] + [1, -1] + [1, 1]
                     + [7, 0, 8, 0, 4, 2, 7, 0] + [1, 0] + [1, 994] + [1, 0] + [1, -1] + [1, -1] + [1, 0] + [1, -1]
                     + [1, -1] + [1, -1] + [1, 0] + [1, 0] + [7, 0, 0, 0, 0, 0, 0, 0])


class OnlyRead(list):
    """A list that can't be changed."""

    def refuse(self, *given):
        raise AssertionError("the list that was handed in is changed")

    append = extend = insert = pop = remove = clear = refuse
    sort = reverse = refuse
    __setitem__ = __delitem__ = __iadd__ = __imul__ = refuse


class InterfaceTest(unittest.TestCase):
    def test_how_many_and_then_these(self):
        self.assertEqual(answers([1]), [1, 0])
        self.assertEqual(answers([1, 2, 9, 1, 44]), [1, 0, 1, 0])
        self.assertEqual(answers([1, 2, -9, 1, 44]), [1, 0, 1, -1])
        self.assertEqual(answers([1, 3, 9, 2]), [1, 0, 3, 0, 0, 0])
        self.assertEqual(answers([1, 3, 9, 0]), [1, 0, 1, 0])
        self.assertEqual(answers([1, 3, 9, -1]), [1, 0, 1, -1])
        self.assertEqual(answers([1, 4, 9, 2]), [1, 0, 1, 0])
        self.assertEqual(answers([1, 4, 16, 2]), [1, 0, 1, -1])
        self.assertEqual(answers([1, 5, 9]), [1, 0, 1, 0])
        self.assertEqual(answers([1, 5, 3]), [1, 0, 1, -1])
        self.assertEqual(answers([1, 6, 9]), [1, 0, 1, 0])
        self.assertEqual(answers([1, 6, -9]), [1, 0, 1, -1])
        self.assertEqual(answers([1, 7, 65534]), [1, 0, 1, 0])
        self.assertEqual(answers([1, 7, 9]), [1, 0, 1, -1])
        self.assertEqual(answers([1, 4, 2, 8, 7, 65534]), [1, 0, 1, 0, 1, 1])

    def test_several_calls(self):
        self.assertEqual(answers(LINE), LINE_ANSWERS)

    def test_all_seven_calls(self):
        self.assertEqual(answers(ALL_CALLS), ALL_CALLS_ANSWERS)

    def test_numbers_of_calls_as_their_own_values(self):
        # ms_get of R7, ms_run of 5, ms_interrupt of 6: what stands behind a call isn't a call.
        self.assertEqual(answers([1, 5, 7, 6, 5, 7, 6, 4, 7, 1, 5, 7]), [1, 0, 1, 0, 1, 0, 1, -1, 1, 0, 1, 1])

    def test_the_numbers_of_a_refused_load_are_no_calls(self):
        self.assertEqual(answers([1, 2, -1, 4, 1, 2, 3, 4, 3, 0, 1]), [1, 0, 1, -1, 2, 0, 0])

    def test_whole_numbers_in_a_list(self):
        for line in (LINE, ALL_CALLS):
            given = answers(line)
            self.assertIs(type(given), list)
            for number in given:
                self.assertIs(type(number), int)

    def test_400_calls(self):
        line = [1]
        expected = [1, 0]
        for k in range(133):
            at = k * 400
            line += load(at, [k, 255 - k]) + look(at, 2) + put(k % 20, k)
            expected += [1, 0, 3, 0, k, 255 - k, 1]
            expected.append(0 if k % 20 < 16 and k % 20 != 3 else -1)
        self.assertIsNone(first_difference(answers(line), expected))

    def test_400_times_clear(self):
        self.assertIsNone(first_difference(answers([1] * 400), [1, 0] * 400))

    def test_400_calls_of_all_sorts(self):
        # R4 becomes 1 more with each run, and its interrupt pushes two words.
        line = [1] + load(512, words(two(5, (3, 1), (4, 0)), jump(7, -2))) + put(0, 512)
        expected = [1, 0] * 3
        for k in range(1, 57):
            line += run(2) + get(4) + put(2, 8) + interrupt(65534) + put(0, 512) + get(1) + look(512, 1)
            expected += [1, 2, 1, k, 1, 0, 1, 1, 1, 0, 1, 65536 - 4 * k, 2, 0, 20]
        # One byte of the two words at 512: 0101001100010100.
        line += get(4) * 5
        expected += [1, 56] * 5
        self.assertIsNone(first_difference(answers(line), expected))

    def test_399_runs(self):
        line = [1] + load(0, words(jump(7, -1))) + run(1000) * 397 + get(0)
        self.assertIsNone(first_difference(answers(line), [1, 0, 1, 0] + [1, 1000] * 397 + [1, 0]))

    def test_399_long_looks(self):
        expected = [1, 0] + ([2001] + [0] * 2001) * 399
        found = answers([1] + look(1000, 2000) * 399)
        self.assertIsNone(first_difference(found, expected))

    def test_a_load_of_29000_bytes(self):
        row = [k * k % 251 for k in range(29000)]
        looks = [look(12345 + k, 1000) for k in range(0, 29000, 1000)]
        found = asked(load(12345, row), look(12344, 1), look(41345, 1), *looks)
        self.assertEqual(found[:3], [[0], [0, 0], [0, 0]])
        seen = []
        for answer in found[3:]:
            self.assertEqual(answer[0], 0)
            seen += answer[1:]
        self.assertIsNone(first_difference(seen, row))

    def test_what_is_handed_in_stays(self):
        for line in (LINE, ALL_CALLS):
            handed_in = list(line)
            answers(handed_in)
            self.assertEqual(handed_in, line)

    def test_what_is_handed_in_is_not_changed_for_a_while(self):
        self.assertEqual(answers(OnlyRead(LINE)), LINE_ANSWERS)
        self.assertEqual(answers(OnlyRead(ALL_CALLS)), ALL_CALLS_ANSWERS)

    def test_what_a_program_writes_does_not_reach_the_list(self):
        # 0 goes to where the instruction itself lies.
        line = [1] + load(512, words(two(4, (3, 0), (2, 1)), 512)) + put(0, 512) + run(5) + look(512, 4)
        handed_in = list(line)
        self.assertEqual(answers(handed_in), [1, 0, 1, 0, 1, 0, 1, 1, 5, 0, 0, 0, 0, 2])
        self.assertEqual(handed_in, line)

    def test_asked_twice(self):
        for line in (LINE, ALL_CALLS):
            self.assertEqual(answers(line), answers(line))

    def test_nothing_is_kept_from_one_time_to_the_next(self):
        answers([1] + load(0, [1, 2, 3]) + put(5, 6) + put(2, 16))
        self.assertEqual(answers([1] + look(0, 3) + get(5) + get(2)), [1, 0, 4, 0, 0, 0, 0, 1, 0, 1, 0])

    def test_the_answer_is_a_new_list_each_time(self):
        first = answers(LINE)
        first.clear()
        self.assertEqual(answers(LINE), LINE_ANSWERS)


if __name__ == "__main__":
    unittest.main()
