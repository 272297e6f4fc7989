"""The ends of memory, of PC and of SP."""

import unittest

from tests.helper import PC, SP, SR, ProgramTest, flags, one, two, words

MOVE = 4
ADD = 5
PUSH = 4
CALL = 5
RETURN = 4864


class PcPast65535Test(ProgramTest):
    def test_an_instruction_at_the_last_word(self):
        self.check([two(ADD, (3, 1), (4, 0))], {}, {}, {4: 1, PC: 0}, {}, at=65534)

    def test_the_next_one_is_at_0(self):
        self.check([two(ADD, (3, 1), (4, 0))], {}, {0: words(two(ADD, (3, 2), (4, 0)))}, {4: 3, PC: 2}, {}, n=5, done=2,
                   at=65534)

    def test_the_first_s_word_is_at_0(self):
        self.check([two(MOVE, (PC, 3), (4, 0))], {}, {0: words(0xA5C3)}, {4: 0xA5C3, PC: 2}, {}, at=65534)
        self.check([two(MOVE, (PC, 3), (4, 0), True)], {}, {0: words(0xA5C3)}, {4: 0xC3, PC: 2}, {}, at=65534)
        self.check([two(MOVE, (PC, 2), (4, 0))], {}, {0: words(0xA5C3)}, {4: 0xA5C3, PC: 0}, {}, at=65534)
        self.check([two(MOVE, (PC, 1), (4, 0))], {}, {0: words(8), 8: words(0xA5C3)}, {4: 0xA5C3, PC: 2}, {}, at=65534)
        self.check([two(MOVE, (5, 1), (4, 0))], {5: 100}, {0: words(8), 108: words(0xA5C3)}, {4: 0xA5C3, PC: 2}, {},
                   at=65534)

    def test_the_second_s_word_is_at_0(self):
        self.check([two(MOVE, (PC, 3), (PC, 1)), 0xA5C3], {}, {0: words(8)}, {PC: 2}, {8: [0xC3, 0xA5]}, at=65532)
        self.check([two(MOVE, (4, 0), (5, 1))], {4: 0xA5C3, 5: 100}, {0: words(8)}, {PC: 2}, {108: [0xC3, 0xA5]},
                   at=65534)

    def test_both_words_lie_at_the_two_ends(self):
        self.check([two(MOVE, (SR, 1), (SR, 1))], {}, {0: words(100, 200), 100: words(0xA5C3)}, {PC: 4},
                   {200: [0xC3, 0xA5]}, at=65534)

    def test_a_call(self):
        self.check([one(CALL, (PC, 3))], {SP: 1000}, {0: words(0xA5C2)}, {SP: 998, PC: 0xA5C2}, {998: words(2)},
                   at=65534)

    def test_pc_as_an_operand_is_0(self):
        self.check([two(MOVE, (PC, 0), (4, 0))], {4: 7}, {}, {4: 0, PC: 0}, {}, at=65534)
        self.check([one(PUSH, (PC, 0))], {SP: 1000}, {998: [7, 7]}, {SP: 998, PC: 0}, {998: [0, 0]}, at=65534)

    def test_at_0(self):
        self.check([two(ADD, (3, 1), (4, 0))], {}, {}, {4: 1}, {}, at=0)


class WordsAtTheEndTest(ProgramTest):
    def test_a_word_at_65534_and_65535(self):
        memory = {65532: [1, 2, 0xC3, 0xA5], 0: [3, 4]}
        for at in (65534, 65535):
            self.check([two(MOVE, (4, 2), (5, 0))], {4: at}, memory, {5: 0xA5C3}, {})
            self.check([two(MOVE, (5, 0), (4, 1)), 0], {4: at, 5: 0x1122}, memory, {}, {65534: [0x22, 0x11]})
            self.check([one(1, (4, 2))], {4: at}, memory, {}, {65534: [0xA5, 0xC3]})

    def test_a_byte_at_65535_and_at_0(self):
        memory = {65534: [1, 2], 0: [3, 4]}
        self.check([two(MOVE, (4, 2), (5, 0), True)], {4: 65535}, memory, {5: 2}, {})
        self.check([two(MOVE, (4, 1), (5, 0), True), 1], {4: 65535}, memory, {5: 3}, {})
        self.check([two(MOVE, (5, 0), (4, 1), True), 0], {4: 65535, 5: 9}, memory, {}, {65535: [9]})
        self.check([two(MOVE, (5, 0), (4, 1), True), 1], {4: 65535, 5: 9}, memory, {}, {0: [9]})

    def test_from_the_last_place_to_the_first(self):
        self.check([two(MOVE, (4, 3), (4, 1)), 0], {4: 65534}, {65534: [0xC3, 0xA5]}, {4: 0}, {0: [0xC3, 0xA5]})
        self.check([two(MOVE, (4, 3), (4, 1), True), 0], {4: 65535}, {65535: [0xC3]}, {4: 0}, {0: [0xC3]})


class SpAtTheEndsTest(ProgramTest):
    def test_pushes_below_0(self):
        program = [one(PUSH, (4, 0)), one(PUSH, (5, 0))]
        self.check(program, {4: 0x1122, 5: 0x3344, SP: 2}, {}, {SP: 65534}, {0: [0x22, 0x11], 65534: [0x44, 0x33]}, n=2)

    def test_pulls_past_65535(self):
        # A pull is the way that makes the register more, with SP.
        program = [two(MOVE, (SP, 3), (4, 0)), two(MOVE, (SP, 3), (5, 0))]
        self.check(program, {SP: 65534}, {65534: [0x22, 0x11], 0: [0x44, 0x33]}, {SP: 2, 4: 0x1122, 5: 0x3344}, {}, n=2)

    def test_a_call_and_the_way_back(self):
        program = [one(CALL, (PC, 3)), 8192]
        self.check(program, {}, {8192: words(two(MOVE, (SP, 3), (PC, 0)))}, {SP: 0}, {65534: words(516)}, n=2)

    def test_a_return_over_the_end(self):
        self.check([RETURN], {SP: 65534}, {65534: words(flags("CI")), 0: words(8192)},
                   {SP: 2, SR: flags("CI"), PC: 8192}, {})

    def test_sums_with_sp(self):
        self.check([two(8, (PC, 3), (SP, 0)), 4], {SP: 2}, {}, {SP: 65534, SR: flags("N")}, {})
        self.check([two(ADD, (PC, 3), (SP, 0)), 4], {SP: 65534}, {}, {SP: 2, SR: flags("C")}, {})


class ProgramsTest(ProgramTest):
    def test_a_sum_by_a_loop(self):
        # R5 becomes the sum of R4, R4 - 1, .. 1.
        program = [two(ADD, (4, 0), (5, 0)), two(8, (3, 1), (4, 0)), 0x2000 | 1021]
        self.check(program, {4: 100}, {}, {4: 0, 5: 5050, SR: flags("CZ")}, {}, n=1000, done=300)

    def test_a_copy_of_bytes(self):
        row = list(range(1, 21))
        program = [two(MOVE, (4, 3), (5, 1), True), 0, two(ADD, (3, 1), (5, 0)), two(8, (3, 1), (6, 0)), 0x2000 | 1019]
        self.check(program, {4: 8192, 5: 9217, 6: 20}, {8192: row}, {4: 8212, 5: 9237, 6: 0, SR: flags("CZ")},
                   {9217: row}, n=1000, done=80)

    def test_calls_within_calls(self):
        # Each call adds 1 to R4 and calls on, until R5 is 0; then all of them come back.
        inner = [two(ADD, (3, 1), (4, 0)), two(8, (3, 1), (5, 0)), 0x2400 | 2, one(CALL, (PC, 3)), 8192,
                 two(MOVE, (SP, 3), (PC, 0))]
        pushed = words(8202, 8202, 516)
        self.check([one(CALL, (PC, 3)), 8192], {5: 3, SP: 1000}, {8192: words(*inner)}, {4: 3, 5: 0, SR: flags("CZ")},
                   {994: pushed}, n=100, done=1 + 3 * 4 + 2)


if __name__ == "__main__":
    unittest.main()
