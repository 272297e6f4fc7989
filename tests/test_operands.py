"""First and second operands by each way, told with the instruction 4 (d becomes s) where that will do."""

import unittest

from tests.helper import ALL_BUT_STOPPED, PC, SP, SR, START, ProgramTest, flags, two, words

MOVE = 4
ADD = 5
OTHERS = list(range(4, 16))


def goal(which):
    """A register other than which."""
    return 15 if which != 15 else 14


class FirstOnWordsTest(ProgramTest):
    def test_way_0_the_register(self):
        for which in OTHERS:
            self.check([two(MOVE, (which, 0), (goal(which), 0))], {which: 0xA5C3}, {}, {goal(which): 0xA5C3}, {})

    def test_way_1_the_register_and_the_next_word(self):
        for which in OTHERS:
            self.check([two(MOVE, (which, 1), (goal(which), 0)), 16], {which: 8192}, {8208: [0xC3, 0xA5]},
                       {goal(which): 0xA5C3}, {})

    def test_way_1_at_its_ends(self):
        for base, more, at in ((8192, 0, 8192), (8192, 65535 - 15, 8176), (65520, 48, 32), (65535, 65535, 65534),
                               (0, 65534, 65534), (65534, 2, 0)):
            self.check([two(MOVE, (4, 1), (5, 0)), more], {4: base}, {at: [0xC3, 0xA5]}, {5: 0xA5C3}, {})

    def test_way_2_memory_at_the_register(self):
        for which in OTHERS:
            self.check([two(MOVE, (which, 2), (goal(which), 0))], {which: 8192}, {8192: [0xC3, 0xA5]},
                       {goal(which): 0xA5C3}, {})

    def test_way_3_makes_the_register_2_more(self):
        for which in OTHERS:
            self.check([two(MOVE, (which, 3), (goal(which), 0))], {which: 8192}, {8192: [0xC3, 0xA5]},
                       {goal(which): 0xA5C3, which: 8194}, {})

    def test_way_3_past_65535(self):
        self.check([two(MOVE, (4, 3), (5, 0))], {4: 65534}, {65534: [0xC3, 0xA5]}, {5: 0xA5C3, 4: 0}, {})
        self.check([two(MOVE, (4, 3), (5, 0))], {4: 65535}, {65534: [0xC3, 0xA5]}, {5: 0xA5C3, 4: 1}, {})

    def test_an_odd_place_is_the_even_one_below(self):
        memory = {8192: [0xC3, 0xA5, 0x77, 0x77]}
        self.check([two(MOVE, (4, 1), (5, 0)), 2], {4: 8191}, memory, {5: 0xA5C3}, {})
        self.check([two(MOVE, (4, 1), (5, 0)), 1], {4: 8192}, memory, {5: 0xA5C3}, {})
        self.check([two(MOVE, (4, 2), (5, 0))], {4: 8193}, memory, {5: 0xA5C3}, {})
        self.check([two(MOVE, (4, 3), (5, 0))], {4: 8193}, memory, {5: 0xA5C3, 4: 8195}, {})
        self.check([two(MOVE, (2, 1), (5, 0)), 8193], {}, memory, {5: 0xA5C3}, {})


class FirstOnBytesTest(ProgramTest):
    def test_way_0_the_lower_byte(self):
        for which in OTHERS:
            self.check([two(MOVE, (which, 0), (goal(which), 0), True)], {which: 0xA5C3, goal(which): 0x7777}, {},
                       {goal(which): 0xC3}, {})

    def test_way_1_a_byte_at_even_and_odd_places(self):
        for which in OTHERS:
            for more in (16, 17):
                self.check([two(MOVE, (which, 1), (goal(which), 0), True), more], {which: 8192, goal(which): 0x7777},
                           {8192 + more: [0xC3]}, {goal(which): 0xC3}, {})

    def test_way_1_past_65535(self):
        self.check([two(MOVE, (4, 1), (5, 0), True), 2], {4: 65535}, {1: [0xC3]}, {5: 0xC3}, {})
        self.check([two(MOVE, (4, 1), (5, 0), True), 65535], {4: 0}, {65535: [0xC3]}, {5: 0xC3}, {})

    def test_way_2_a_byte_at_even_and_odd_places(self):
        for which in OTHERS:
            for at in (8192, 8193):
                self.check([two(MOVE, (which, 2), (goal(which), 0), True)], {which: at}, {at: [0xC3]},
                           {goal(which): 0xC3}, {})

    def test_way_3_makes_the_register_1_more(self):
        for which in OTHERS:
            for at in (8192, 8193):
                self.check([two(MOVE, (which, 3), (goal(which), 0), True)], {which: at}, {at: [0xC3]},
                           {goal(which): 0xC3, which: at + 1}, {})

    def test_way_3_past_65535(self):
        self.check([two(MOVE, (4, 3), (5, 0), True)], {4: 65535}, {65535: [0xC3]}, {5: 0xC3, 4: 0}, {})


class FirstIsPcTest(ProgramTest):
    def test_way_0_is_behind_the_instruction(self):
        self.check([two(MOVE, (PC, 0), (5, 0))], {}, {}, {5: START + 2}, {})
        self.check([two(MOVE, (PC, 0), (5, 0), True)], {5: 0x7777}, {}, {5: 2}, {})

    def test_way_0_is_ahead_of_the_second_s_word(self):
        self.check([two(MOVE, (PC, 0), (2, 1)), 8192], {}, {}, {}, {8192: words(START + 2)})

    def test_way_1_counts_from_the_next_word_s_place(self):
        self.check([two(MOVE, (PC, 1), (5, 0)), 100], {}, {START + 102: [0xC3, 0xA5]}, {5: 0xA5C3}, {})
        self.check([two(MOVE, (PC, 1), (5, 0)), 65536 - 100], {}, {START - 98: [0xC3, 0xA5]}, {5: 0xA5C3}, {})
        self.check([two(MOVE, (PC, 1), (5, 0), True), 101], {}, {START + 103: [0xC3]}, {5: 0xC3}, {})

    def test_way_2_takes_no_word(self):
        # What is taken is the word behind the instruction, where PC stays.
        self.check([two(MOVE, (PC, 2), (5, 0)), 0xA5C3], {}, {}, {5: 0xA5C3, PC: START + 2}, {})
        self.check([two(MOVE, (PC, 2), (5, 0), True), 0xA5C3], {}, {}, {5: 0xC3, PC: START + 2}, {})

    def test_way_3_is_2_more_on_bytes_too(self):
        self.check([two(MOVE, (PC, 3), (5, 0)), 0xA5C3], {}, {}, {5: 0xA5C3}, {})
        self.check([two(MOVE, (PC, 3), (5, 0), True), 0xA5C3], {}, {}, {5: 0xC3}, {})


class FirstIsSpTest(ProgramTest):
    def test_way_0(self):
        self.check([two(MOVE, (SP, 0), (5, 0))], {SP: 0xA5C2}, {}, {5: 0xA5C2}, {})
        self.check([two(MOVE, (SP, 0), (5, 0), True)], {SP: 0xA5C2}, {}, {5: 0xC2}, {})

    def test_way_1(self):
        self.check([two(MOVE, (SP, 1), (5, 0)), 3], {SP: 8190}, {8192: [0xC3, 0xA5]}, {5: 0xA5C3}, {})
        self.check([two(MOVE, (SP, 1), (5, 0), True), 3], {SP: 8190}, {8192: [0xC3, 0xA5]}, {5: 0xA5}, {})

    def test_way_2(self):
        self.check([two(MOVE, (SP, 2), (5, 0))], {SP: 8192}, {8192: [0xC3, 0xA5]}, {5: 0xA5C3}, {})
        self.check([two(MOVE, (SP, 2), (5, 0), True)], {SP: 8192}, {8192: [0xC3, 0xA5]}, {5: 0xC3}, {})

    def test_way_3_is_2_more_on_bytes_too(self):
        self.check([two(MOVE, (SP, 3), (5, 0))], {SP: 8192}, {8192: [0xC3, 0xA5]}, {5: 0xA5C3, SP: 8194}, {})
        self.check([two(MOVE, (SP, 3), (5, 0), True)], {SP: 8192}, {8192: [0xC3, 0xA5]}, {5: 0xC3, SP: 8194}, {})

    def test_way_3_past_65535(self):
        for on_bytes, s in ((False, 0xA5C3), (True, 0xC3)):
            self.check([two(MOVE, (SP, 3), (5, 0), on_bytes)], {SP: 65534}, {65534: [0xC3, 0xA5]}, {5: s, SP: 0}, {})


class FirstIsSrOrR3Test(ProgramTest):
    def test_sr_way_0(self):
        self.check([two(MOVE, (SR, 0), (5, 0))], {SR: ALL_BUT_STOPPED}, {}, {5: ALL_BUT_STOPPED}, {})
        self.check([two(MOVE, (SR, 0), (5, 0), True)], {SR: ALL_BUT_STOPPED}, {}, {5: ALL_BUT_STOPPED - 256}, {})

    def test_sr_way_1_counts_from_0(self):
        for status in (0, ALL_BUT_STOPPED):
            self.check([two(MOVE, (SR, 1), (5, 0)), 8192], {SR: status}, {8192: [0xC3, 0xA5]}, {5: 0xA5C3}, {})
            self.check([two(MOVE, (SR, 1), (5, 0), True), 8193], {SR: status}, {8192: [0xC3, 0xA5]}, {5: 0xA5}, {})

    def test_sr_ways_2_and_3_are_numbers(self):
        # At 0 and at the places that SR would tell lies what must not be taken.
        memory = {0: [0x77] * 16, 232: [0x77] * 16}
        for status in (0, 232):
            for on_bytes in (False, True):
                for way, number in ((2, 4), (3, 8)):
                    self.check([two(MOVE, (SR, way), (5, 0), on_bytes)], {SR: status, 5: 0x7777}, memory,
                               {5: number}, {})

    def test_r3_is_a_number_by_each_way(self):
        for on_bytes, top in ((False, 65535), (True, 255)):
            for way, number in ((0, 0), (1, 1), (2, 2), (3, top)):
                self.check([two(MOVE, (3, way), (5, 0), on_bytes)], {5: 0x7777}, {0: [0x77] * 16}, {5: number}, {})

    def test_a_number_takes_no_word(self):
        for number in ((3, 1), (3, 2), (3, 3), (SR, 2), (SR, 3)):
            s = {(3, 1): 1, (3, 2): 2, (3, 3): 65535, (SR, 2): 4, (SR, 3): 8}[number]
            self.check([two(MOVE, number, (SR, 1)), 8192], {}, {8192: [7, 7, 7, 7]}, {}, {8192: words(s)})


class SecondOnWordsTest(ProgramTest):
    def test_way_0_the_register(self):
        for which in OTHERS:
            self.check([two(MOVE, (PC, 3), (which, 0)), 0xA5C3], {which: 0x1111}, {}, {which: 0xA5C3}, {})

    def test_way_1_the_register_and_the_next_word(self):
        for which in OTHERS:
            self.check([two(MOVE, (PC, 3), (which, 1)), 0xA5C3, 16], {which: 8192}, {8206: [7] * 6}, {},
                       {8208: [0xC3, 0xA5]})

    def test_way_1_at_its_ends(self):
        for base, more, at in ((8192, 0, 8192), (8192, 65535 - 15, 8176), (65520, 48, 32), (65535, 65535, 65534),
                               (0, 65534, 65534), (65534, 2, 0)):
            self.check([two(MOVE, (4, 0), (5, 1)), more], {4: 0xA5C3, 5: base}, {}, {}, {at: [0xC3, 0xA5]})

    def test_an_odd_place_is_the_even_one_below(self):
        self.check([two(MOVE, (4, 0), (5, 1)), 3], {4: 0xA5C3, 5: 8190}, {8190: [7] * 6}, {}, {8192: [0xC3, 0xA5]})
        self.check([two(MOVE, (4, 0), (5, 1)), 0], {4: 0xA5C3, 5: 8193}, {8190: [7] * 6}, {}, {8192: [0xC3, 0xA5]})
        self.check([two(MOVE, (4, 0), (SR, 1)), 65535], {4: 0xA5C3}, {}, {}, {65534: [0xC3, 0xA5]})

    def test_memory_is_taken_as_well_as_kept(self):
        self.check([two(ADD, (4, 0), (5, 1)), 4], {4: 0x0102, 5: 8192}, {8196: [0x30, 0x40]}, {},
                   {8196: [0x32, 0x41]})


class SecondOnBytesTest(ProgramTest):
    def test_way_0_clears_the_upper_byte(self):
        for which in OTHERS:
            self.check([two(MOVE, (PC, 3), (which, 0), True), 0xA5C3], {which: 0x1111}, {}, {which: 0xC3}, {})

    def test_way_0_takes_the_lower_byte(self):
        for which in OTHERS:
            self.check([two(ADD, (3, 1), (which, 0), True)], {which: 0x1122}, {}, {which: 0x23}, {})

    def test_the_upper_byte_stays_where_nothing_is_kept(self):
        for what in (9, 11):
            self.check([two(what, (3, 1), (5, 0), True)], {5: 0x1123}, {}, {SR: flags("C")}, {})

    def test_way_1_changes_one_byte_alone(self):
        for which in OTHERS:
            for more in (16, 17):
                self.check([two(MOVE, (PC, 3), (which, 1), True), 0xA5C3, more], {which: 8192}, {8206: [7] * 6}, {},
                           {8192 + more: [0xC3]})

    def test_way_1_past_65535(self):
        self.check([two(MOVE, (4, 0), (5, 1), True), 2], {4: 0xA5C3, 5: 65535}, {}, {}, {1: [0xC3]})
        self.check([two(MOVE, (4, 0), (5, 1), True), 65535], {4: 0xA5C3}, {}, {}, {65535: [0xC3]})


class SecondIsPcTest(ProgramTest):
    def test_way_0(self):
        self.check([two(MOVE, (PC, 3), (PC, 0)), 0xA5C3], {}, {}, {PC: 0xA5C2}, {})
        self.check([two(MOVE, (PC, 3), (PC, 0), True), 0xA5C3], {}, {}, {PC: 0xC2}, {})

    def test_way_0_is_behind_all_words(self):
        self.check([two(ADD, (PC, 3), (PC, 0)), 20], {}, {}, {PC: START + 24}, {})
        self.check([two(ADD, (PC, 1), (PC, 0)), 98], {}, {START + 100: [20, 0]}, {PC: START + 24}, {})

    def test_way_1_counts_from_its_own_word_s_place(self):
        self.check([two(MOVE, (4, 0), (PC, 1)), 100], {4: 0xA5C3}, {}, {}, {START + 102: [0xC3, 0xA5]})
        self.check([two(MOVE, (PC, 3), (PC, 1)), 0xA5C3, 100], {}, {}, {}, {START + 104: [0xC3, 0xA5]})
        self.check([two(MOVE, (PC, 3), (PC, 1), True), 0xA5C3, 101], {}, {}, {}, {START + 105: [0xC3]})
        self.check([two(MOVE, (PC, 3), (PC, 1)), 0xA5C3, 65536 - 100], {}, {}, {}, {START - 96: [0xC3, 0xA5]})

    def test_both_by_way_1(self):
        program = [two(MOVE, (PC, 1), (PC, 1)), 100, 200]
        self.check(program, {}, {START + 102: [0xC3, 0xA5]}, {}, {START + 204: [0xC3, 0xA5]})


class SecondIsSpSrOrR3Test(ProgramTest):
    def test_sp_way_0(self):
        self.check([two(MOVE, (PC, 3), (SP, 0)), 0xA5C3], {}, {}, {SP: 0xA5C2}, {})
        self.check([two(MOVE, (PC, 3), (SP, 0), True), 0xA5C3], {SP: 0x7000}, {}, {SP: 0xC2}, {})

    def test_sp_way_1(self):
        self.check([two(MOVE, (4, 0), (SP, 1)), 4], {4: 0xA5C3, SP: 8192}, {}, {}, {8196: [0xC3, 0xA5]})
        self.check([two(MOVE, (4, 0), (SP, 1), True), 5], {4: 0xA5C3, SP: 8192}, {}, {}, {8197: [0xC3]})

    def test_sr_way_0(self):
        self.check([two(MOVE, (PC, 3), (SR, 0)), 0xA5C3], {}, {}, {SR: 0x1C3}, {})
        self.check([two(MOVE, (PC, 3), (SR, 0), True), 0xA5C3], {SR: 256}, {}, {SR: 0xC3}, {})

    def test_sr_way_1_counts_from_0(self):
        for status in (0, ALL_BUT_STOPPED):
            self.check([two(MOVE, (4, 0), (SR, 1)), 8192], {4: 0xA5C3, SR: status}, {}, {}, {8192: [0xC3, 0xA5]})
            self.check([two(MOVE, (4, 0), (SR, 1), True), 8193], {4: 0xA5C3, SR: status}, {}, {}, {8193: [0xC3]})

    def test_r3_way_0_is_0_and_keeps_nothing(self):
        # What R3 is shows in what a sum with it sets.
        for on_bytes in (False, True):
            program = [two(MOVE, (4, 0), (3, 0), on_bytes), two(ADD, (3, 0), (3, 0), on_bytes)]
            self.check(program, {4: 0xA5C3}, {}, {SR: flags("Z")}, {}, n=2)
            self.check([two(ADD, (3, 3), (3, 0), on_bytes)], {}, {}, {SR: flags("N")}, {})

    def test_r3_way_1_counts_from_0(self):
        for on_bytes, row in ((False, [0xC3, 0xA5]), (True, [0xC3])):
            program = [two(MOVE, (4, 0), (3, 0), on_bytes), two(MOVE, (4, 0), (3, 1), on_bytes), 8192]
            self.check(program, {4: 0xA5C3}, {}, {}, {8192: row}, n=2)
        self.check([two(ADD, (4, 0), (3, 1)), 8192], {4: 0x0102}, {8192: [0x30, 0x40]}, {}, {8192: [0x32, 0x41]})


class OrderTest(ProgramTest):
    def test_the_first_moves_the_register_that_tells_the_second(self):
        self.check([two(MOVE, (4, 3), (4, 1)), 4], {4: 8192}, {8192: [0xC3, 0xA5]}, {4: 8194}, {8198: [0xC3, 0xA5]})
        self.check([two(MOVE, (4, 3), (4, 1), True), 4], {4: 8192}, {8192: [0xC3]}, {4: 8193}, {8197: [0xC3]})
        self.check([two(MOVE, (SP, 3), (SP, 1)), 4], {SP: 8192}, {8192: [0xC3, 0xA5]}, {SP: 8194},
                   {8198: [0xC3, 0xA5]})

    def test_the_first_moves_the_register_that_is_the_second(self):
        self.check([two(ADD, (4, 3), (4, 0))], {4: 8192}, {8192: [5, 0]}, {4: 8199}, {})
        self.check([two(ADD, (4, 3), (4, 0), True)], {4: 8192}, {8192: [5]}, {4: 6}, {})
        self.check([two(MOVE, (4, 3), (4, 0))], {4: 8192}, {8192: [0xC3, 0xA5]}, {4: 0xA5C3}, {})
        self.check([two(ADD, (SP, 3), (SP, 0))], {SP: 8192}, {8192: [6, 0]}, {SP: 8200}, {})

    def test_the_first_moves_the_register_though_nothing_is_kept(self):
        self.check([two(9, (4, 3), (4, 0))], {4: 8192}, {8192: [2, 32]}, {4: 8194, SR: flags("CZ")}, {})

    def test_the_first_s_word_comes_first(self):
        program = [two(MOVE, (4, 1), (5, 1)), 2, 4]
        self.check(program, {4: 8192, 5: 9216}, {8194: [0xC3, 0xA5]}, {}, {9220: [0xC3, 0xA5]})

    def test_one_register_and_one_place_for_both(self):
        self.check([two(ADD, (4, 0), (4, 0))], {4: 700}, {}, {4: 1400}, {})
        self.check([two(ADD, (4, 1), (4, 1)), 2, 2], {4: 8192}, {8194: [3, 2]}, {}, {8194: [6, 4]})
        self.check([two(ADD, (PC, 0), (PC, 0))], {}, {}, {PC: 2 * START + 4}, {})
        self.check([two(ADD, (SP, 0), (SP, 0))], {SP: 300}, {}, {SP: 600}, {})

    def test_the_first_is_the_register_that_tells_the_second(self):
        self.check([two(MOVE, (4, 0), (4, 1)), 2], {4: 8192}, {}, {}, {8194: words(8192)})

    def test_the_second_is_the_register_that_tells_the_first(self):
        self.check([two(ADD, (4, 1), (4, 0)), 2], {4: 8192}, {8194: [5, 0]}, {4: 8197}, {})
        self.check([two(ADD, (4, 2), (4, 0))], {4: 8192}, {8192: [5, 0]}, {4: 8197}, {})


if __name__ == "__main__":
    unittest.main()
