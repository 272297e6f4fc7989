"""The interface: one list of calls, one list of answers."""

import unittest

from tests.helper import asked, first_difference, load, look, put
from wordrunnerdesk.machine import answers

LINE = [1, 2, 300, 3, 10, 20, 30, 4, 5, -7, 3, 299, 5, 4, 3, 1, 3, -1, 2, 2, 65536, 0, 1, 3, 300, 1]
LINE_ANSWERS = [1, 0, 1, 0, 1, 0, 6, 0, 0, 10, 20, 30, 0, 1, -1, 1, -1, 1, 0, 1, 0, 2, 0, 0]


class InterfaceTest(unittest.TestCase):
    def test_how_many_and_then_these(self):
        self.assertEqual(answers([1]), [1, 0])
        self.assertEqual(answers([1, 2, 9, 1, 44]), [1, 0, 1, 0])
        self.assertEqual(answers([1, 2, -9, 1, 44]), [1, 0, 1, -1])
        self.assertEqual(answers([1, 3, 9, 2]), [1, 0, 3, 0, 0, 0])
        self.assertEqual(answers([1, 3, 9, 0]), [1, 0, 1, 0])
        self.assertEqual(answers([1, 3, 9, -1]), [1, 0, 1, -1])
        self.assertEqual(answers([1, 4, 9, 2]), [1, 0, 1, 0])
        self.assertEqual(answers([1, 4, 16, 2]), [1, 0, 1, -1])

    def test_several_calls(self):
        self.assertEqual(answers(LINE), LINE_ANSWERS)

    def test_the_numbers_of_a_refused_load_are_no_calls(self):
        self.assertEqual(answers([1, 2, -1, 4, 1, 2, 3, 4, 3, 0, 1]), [1, 0, 1, -1, 2, 0, 0])

    def test_whole_numbers_in_a_list(self):
        given = answers(LINE)
        self.assertIs(type(given), list)
        for number in given:
            self.assertIs(type(number), int)

    def test_400_calls(self):
        line = [1]
        expected = [1, 0]
        for k in range(133):
            at = k * 400
            line += load(at, [k, 255 - k]) + look(at, 2) + put(k % 20, k)
            expected += [1, 0, 3, 0, k, 255 - k, 1]
            expected.append(0 if k % 20 < 16 and k % 20 != 3 else -1)
        self.assertIsNone(first_difference(answers(line), expected))

    def test_400_times_clear(self):
        self.assertIsNone(first_difference(answers([1] * 400), [1, 0] * 400))

    def test_399_long_looks(self):
        expected = [1, 0] + ([2001] + [0] * 2001) * 399
        found = answers([1] + look(1000, 2000) * 399)
        self.assertIsNone(first_difference(found, expected))

    def test_a_load_of_29000_bytes(self):
        row = [k * k % 251 for k in range(29000)]
        looks = [look(12345 + k, 1000) for k in range(0, 29000, 1000)]
        found = asked(load(12345, row), look(12344, 1), look(41345, 1), *looks)
        self.assertEqual(found[:3], [[0], [0, 0], [0, 0]])
        seen = []
        for answer in found[3:]:
            self.assertEqual(answer[0], 0)
            seen += answer[1:]
        self.assertIsNone(first_difference(seen, row))

    def test_what_is_handed_in_stays(self):
        line = list(LINE)
        answers(line)
        self.assertEqual(line, LINE)

    def test_what_is_handed_in_is_not_changed_for_a_while(self):
        class OnlyRead(list):
            def refuse(self, *given):
                raise AssertionError("the list that was handed in is changed")

            append = extend = insert = pop = remove = clear = refuse
            sort = reverse = refuse
            __setitem__ = __delitem__ = __iadd__ = __imul__ = refuse

        self.assertEqual(answers(OnlyRead(LINE)), LINE_ANSWERS)

    def test_asked_twice(self):
        line = [1] + load(0, [1, 2, 3]) + put(4, 5) + look(0, 4)
        first = answers(line)
        self.assertEqual(answers(line), first)
        self.assertEqual(first, [1, 0, 1, 0, 1, 0, 5, 0, 1, 2, 3, 0])

    def test_nothing_is_kept_from_one_time_to_the_next(self):
        answers([1] + load(0, [1, 2, 3]))
        self.assertEqual(answers([1] + look(0, 3)), [1, 0, 4, 0, 0, 0, 0])

    def test_the_answer_is_a_new_list_each_time(self):
        first = answers(LINE)
        first.clear()
        self.assertEqual(answers(LINE), LINE_ANSWERS)


if __name__ == "__main__":
    unittest.main()
