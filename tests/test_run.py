"""Promise 4, ms_run: how many instructions are done, and where it ends."""

import unittest

from tests.helper import (ALL_BUT_STOPPED, HIGHEST, LOWEST, PC, SR, START, ProgramTest, asked, first_difference,
                          flags, get, jump, load, one, put, run, state_behind, two, words)

ALWAYS = 7
TO_ITSELF = jump(ALWAYS, -1)
# R4 becomes 1 more.
COUNT = two(5, (3, 1), (4, 0))
RETURN = 4864


class HowManyTest(ProgramTest):
    def test_n_outside_is_refused(self):
        for n in (-1, -2, LOWEST, 1000001, 1000002, HIGHEST):
            self.assertEqual(asked(load(START, words(COUNT)), put(PC, START), run(n)), [[0], [0], [-1]])

    def test_a_refusal_leaves_all_as_it_was(self):
        for n in (-1, 1000001):
            self.check([COUNT], {4: 9, SR: 3}, {600: [1, 2]}, {PC: START}, {}, n=n, done=-1)

    def test_the_refusal_comes_first_where_nothing_could_be_done(self):
        self.assertEqual(asked(run(-1), run(1000001), put(SR, 16), run(-1), run(1000001)),
                         [[-1], [-1], [0], [-1], [-1]])

    def test_0_does_nothing(self):
        self.check([COUNT], {4: 9}, {}, {PC: START}, {}, n=0)

    def test_1_does_one(self):
        self.check([COUNT, COUNT], {4: 9}, {}, {4: 10, PC: START + 2}, {}, n=1)

    def test_some(self):
        for n in range(5):
            self.check([COUNT] * 4, {}, {}, {4: n, PC: START + 2 * n}, {}, n=n)

    def test_a_million(self):
        self.check([TO_ITSELF], {4: 3}, {}, {PC: START}, {}, n=1000000)

    def test_a_million_with_a_loop_of_two(self):
        # 500000 modulo 65536, which has a sign.
        self.check([COUNT, jump(ALWAYS, -2)], {}, {}, {4: 41248, SR: flags("N"), PC: START}, {}, n=1000000)

    def test_one_below_a_million(self):
        self.check([COUNT, jump(ALWAYS, -2)], {}, {}, {4: 41248, SR: flags("N"), PC: START + 2}, {}, n=999999)

    def test_in_parts_as_at_once(self):
        calls = [load(START, words(COUNT, one(0, (4, 0)), jump(2, -3), TO_ITSELF)), put(PC, START)]
        parts = state_behind(calls + [run(3), run(0), run(1), run(5)])
        at_once = state_behind(calls + [run(9)])
        self.assertEqual(parts[0][2:], [[3], [0], [1], [5]])
        self.assertEqual(at_once[0][2:], [[9]])
        self.assertEqual(parts[1], at_once[1])
        self.assertIsNone(first_difference(parts[2], at_once[2]))

    def test_instructions_count_and_not_their_words(self):
        # 7 goes to 600: an instruction of three words.
        program = [two(4, (0, 3), (2, 1)), 7, 600, COUNT]
        self.check(program, {}, {}, {4: 1}, {600: [7]}, n=2)


class NoInstructionTest(ProgramTest):
    def test_it_ends_there_and_pc_stays(self):
        self.check([COUNT, COUNT, COUNT], {}, {}, {4: 3}, {}, n=10, done=3)

    def test_it_ends_at_the_first_word(self):
        self.check([0], {4: 8}, {}, {PC: START}, {}, n=10, done=0)
        self.assertEqual(asked(run(1), run(1000000), get(PC)), [[0], [0], [0]])

    def test_asked_again_it_stays_there(self):
        found = asked(load(START, words(COUNT)), put(PC, START), run(2), run(2), get(PC), get(4))
        self.assertEqual(found[2:], [[1], [0], [START + 2], [1]])

    def test_it_goes_on_when_there_is_one(self):
        found = asked(load(START, words(COUNT)), put(PC, START), run(2), load(START + 2, words(COUNT)), run(2), get(4))
        self.assertEqual(found[2:], [[1], [0], [1], [2]])

    def test_an_instruction_may_make_the_next_one_none(self):
        # 0 goes to the word behind the instruction: 2 more than where the second's next word lies.
        program = [two(4, (3, 0), (0, 1)), 2, COUNT, COUNT]
        self.check(program, {}, {}, {PC: START + 4}, {START + 4: [0, 0]}, n=5, done=1)

    def test_an_instruction_may_write_the_next_one(self):
        program = [two(4, (0, 3), (0, 1)), COUNT, 2, 0]
        self.check(program, {}, {}, {4: 1}, {START + 6: words(COUNT)}, n=5, done=2)

    def test_at_the_place_of_a_jump(self):
        self.check([jump(ALWAYS, 100)], {}, {}, {PC: START + 202}, {}, n=5, done=1)


class StoppedTest(ProgramTest):
    def test_it_does_nothing_where_bit_4_is_set(self):
        for status in (flags("S"), 511):
            self.check([COUNT], {SR: status, 4: 5}, {}, {PC: START}, {}, n=3, done=0)

    def test_no_other_bit_stops_it(self):
        for bit in (1, 2, 4, 8, 32, 64, 128, 256):
            self.check([two(4, (3, 1), (4, 0))], {SR: bit}, {}, {4: 1}, {}, n=1)
        self.check([two(4, (3, 1), (4, 0))], {SR: ALL_BUT_STOPPED}, {}, {4: 1}, {}, n=1)

    def test_it_ends_behind_the_instruction_that_sets_bit_4(self):
        # Bits together, and on bytes; becomes; exclusive or; each of 16 and SR.
        for what, on_bytes in ((13, False), (13, True), (4, False), (4, True), (14, False), (14, True), (5, False)):
            program = [COUNT, two(what, (0, 3), (SR, 0), on_bytes), 16, COUNT, COUNT]
            self.check(program, {}, {}, {4: 1, SR: 16, PC: START + 6}, {}, n=4, done=2)

    def test_it_ends_behind_a_return_that_sets_bit_4(self):
        self.check([RETURN], {1: 1000}, {1000: words(24, 2000), 2000: words(COUNT)},
                   {1: 1004, SR: 24, PC: 2000}, {}, n=4, done=1)

    def test_it_ends_behind_an_operand_that_is_sr(self):
        # 32 by one to the right is 16.
        self.check([one(2, (SR, 0)), COUNT], {SR: 32}, {}, {SR: 16, PC: START + 2}, {}, n=4, done=1)

    def test_it_stays_stopped(self):
        found = asked(load(START, words(two(13, (0, 3), (SR, 0)), 16, COUNT)), put(PC, START), run(5), run(5), get(4))
        self.assertEqual(found[2:], [[1], [0], [0]])

    def test_it_goes_on_when_bit_4_is_clear_again(self):
        found = asked(load(START, words(COUNT)), put(PC, START), put(SR, 16), run(5), put(SR, 0), run(5), get(4))
        self.assertEqual(found[3:], [[0], [0], [1], [1]])


if __name__ == "__main__":
    unittest.main()
