"""What each instruction with two operands comes to, and its flags."""

import unittest

from tests.helper import (ALL_BUT_STOPPED, PC, SP, SR, START, ProgramTest, asked, flags, get, load, look, put, run,
                          two, words)

# Of SR what no flag has, without "stopped".
OTHER_BITS = 232


def sums(h, m):
    """Rows of an instruction, C, d, s, the sum and its flags; h is q / 2 and m is q - 1."""
    rows = []
    for carry in (0, 1):
        # d + s, whatever C is
        rows += [(5, carry) + row for row in (
            (1, 2, 3, ""), (0, 0, 0, "Z"), (0, 1, 1, ""), (0, m, m, "N"), (h - 1, 0, h - 1, ""), (h - 1, 1, h, "NV"),
            (1, h - 1, h, "NV"), (h, h, 0, "CZV"), (m, 1, 0, "CZ"), (1, m, 0, "CZ"), (m, m, m - 1, "CN"),
            (h, h - 1, m, "N"), (h, m, h - 1, "CV"), (m, h, h - 1, "CV"), (h - 1, h - 1, m - 1, "NV"),
            (h - 1, m, h - 2, "C"), (h, 1, h + 1, "N"), (m - 1, 1, m, "N"), (h - 1, h + 1, 0, "CZ"))]
        # d - s, whatever C is; kept, and not kept
        rows += [(what, carry) + row for what in (8, 9) for row in (
            (5, 3, 2, "C"), (3, 5, m - 1, "N"), (4, 4, 0, "CZ"), (0, 0, 0, "CZ"), (0, 1, m, "N"), (0, m, 1, ""),
            (m, 0, m, "CN"), (m, m, 0, "CZ"), (h, 1, h - 1, "CV"), (h - 1, m, h, "NV"), (0, h, h, "NV"),
            (h, h, 0, "CZ"), (h - 1, h, m, "NV"), (h, h - 1, 1, "CV"), (h - 1, h - 1, 0, "CZ"), (h, 0, h, "CN"),
            (m, h, h - 1, "C"), (h, m, h + 1, "N"), (m, 1, m - 1, "CN"), (1, 0, 1, "C"))]
    # d + s + C
    rows += [(6, 0) + row for row in (
        (1, 2, 3, ""), (0, 0, 0, "Z"), (m, 0, m, "N"), (m, 1, 0, "CZ"), (h - 1, 0, h - 1, ""), (h - 1, 1, h, "NV"),
        (h, h, 0, "CZV"), (m, m, m - 1, "CN"), (h - 1, h, m, "N"))]
    rows += [(6, 1) + row for row in (
        (1, 2, 4, ""), (0, 0, 1, ""), (m, 0, 0, "CZ"), (0, m, 0, "CZ"), (m, 1, 1, "C"), (h - 1, 0, h, "NV"),
        (0, h - 1, h, "NV"), (h, h, 1, "CV"), (m, m, m, "CN"), (h - 1, h, 0, "CZ"), (h - 1, h - 1, m, "NV"),
        (m - 1, 0, m, "N"), (h, m, h, "CN"))]
    # d + (q - 1 - s) + C
    rows += [(7, 0) + row for row in (
        (5, 3, 1, "C"), (3, 5, m - 2, "N"), (4, 4, m, "N"), (0, 0, m, "N"), (h, 0, h - 1, "CV"), (h - 1, m, h - 1, ""),
        (1, 0, 0, "CZ"), (0, m, 0, "Z"), (m, m, m, "N"), (m, 0, m - 1, "CN"), (0, h, h - 1, ""), (h, h - 1, 0, "CZV"))]
    rows += [(7, 1) + row for row in (
        (5, 3, 2, "C"), (3, 5, m - 1, "N"), (4, 4, 0, "CZ"), (0, 0, 0, "CZ"), (h, 0, h, "CN"), (h - 1, m, h, "NV"),
        (h, 1, h - 1, "CV"), (0, m, 1, ""), (m, m, 0, "CZ"), (0, h, h, "NV"))]
    return rows


def bits(h, m):
    """Rows as above of those that don't add; the flags are None where they stay."""
    rows = []
    for carry in (0, 1):
        rows += [(4, carry) + row for row in ((1, 2, 2, None), (m, 0, 0, None), (0, m, m, None), (0, h, h, None))]
        rows += [(what, carry) + row for what in (11, 15) for row in (
            (m, h, h, "CN"), (1, 2, 0, "Z"), (m, 1, 1, "C"), (0, m, 0, "Z"), (m, m, m, "CN"), (h, h, h, "CN"),
            (h, h - 1, 0, "Z"), (7, 12, 4, "C"))]
        rows += [(12, carry) + row for row in (
            (m, 1, m - 1, None), (7, 12, 3, None), (m, m, 0, None), (0, m, 0, None), (m, 0, m, None),
            (m, h, h - 1, None))]
        rows += [(13, carry) + row for row in (
            (1, 2, 3, None), (0, 0, 0, None), (h, h - 1, m, None), (7, 12, 15, None), (m, m, m, None))]
        rows += [(14, carry) + row for row in (
            (5, 3, 6, "C"), (1, 1, 0, "Z"), (h, h, 0, "ZV"), (m, h, h - 1, "CV"), (h, m, h - 1, "CV"), (m, 0, m, "CN"),
            (0, m, m, "CN"), (h, h + 1, 1, "CV"), (0, 0, 0, "Z"), (h, 0, h, "CN"), (h - 1, h, m, "CN"),
            (h - 1, h - 1, 0, "Z"))]
    return rows


# Rows of C, d, s, the decimal sum and its flags but V.
DECIMAL_WORDS = [
    (0, 0x1234, 0x4321, 0x5555, ""), (1, 0x1234, 0x4321, 0x5556, ""), (0, 0, 0, 0, "Z"), (1, 0, 0, 1, ""),
    (0, 0x9999, 1, 0, "CZ"), (1, 0x9999, 0, 0, "CZ"), (0, 0x9999, 0x9999, 0x9998, "CN"),
    (1, 0x9999, 0x9999, 0x9999, "CN"), (0, 5, 5, 0x10, ""), (0, 4, 5, 9, ""), (1, 4, 5, 0x10, ""),
    (0, 0x95, 5, 0x100, ""), (0, 0x5000, 0x5000, 0, "CZ"), (0, 0x4999, 0x5000, 0x9999, "N"),
    (1, 0x4999, 0x5000, 0, "CZ"), (0, 0x8000, 0, 0x8000, "N"), (0, 0x7999, 0, 0x7999, ""), (1, 0x7999, 0, 0x8000, "N"),
    # digits above 9
    (0, 0x000A, 0, 0x0010, ""), (0, 0x000F, 0, 0x0015, ""), (0, 0x000F, 0x000F, 0x0014, ""),
    (1, 0x000F, 0x000F, 0x0015, ""), (0, 0x000C, 0x000D, 0x001F, ""), (0, 0x000D, 0x000D, 0x0010, ""),
    (1, 0x000C, 0x000D, 0x0010, ""), (0, 0xA000, 0, 0, "CZ"), (0, 0xF000, 0xF000, 0x4000, "C"),
    (0, 0xC000, 0xD000, 0xF000, "CN"), (0, 0xFFFF, 0xFFFF, 0x5554, "C"), (1, 0xFFFF, 0xFFFF, 0x5555, "C"),
    (0, 0xFFFF, 0, 0x6665, "C"), (1, 0xFFFF, 0, 0x6666, "C"), (0, 0x0FFF, 0, 0x1665, ""), (0, 0x9A00, 0, 0, "CZ"),
]
DECIMAL_BYTES = [
    (0, 0x12, 0x34, 0x46, ""), (1, 0x12, 0x34, 0x47, ""), (0, 0, 0, 0, "Z"), (1, 0, 0, 1, ""), (0, 0x99, 1, 0, "CZ"),
    (1, 0x99, 0, 0, "CZ"), (0, 0x99, 0x99, 0x98, "CN"), (1, 0x99, 0x99, 0x99, "CN"), (0, 0x45, 0x45, 0x90, "N"),
    (0, 0x50, 0x50, 0, "CZ"), (0, 0x79, 0, 0x79, ""), (1, 0x79, 0, 0x80, "N"), (0, 0x0A, 0, 0x10, ""),
    (0, 0xFF, 0xFF, 0x54, "C"), (1, 0xFF, 0xFF, 0x55, "C"), (0, 0xA0, 0, 0, "CZ"), (0, 0xCC, 0xDD, 0x0F, "C"),
    (0, 0xC0, 0xD0, 0xF0, "CN"), (0, 0x9A, 0, 0, "CZ"),
]

NOT_KEPT = (9, 11)


def status_behind(before, letters):
    """SR behind an instruction that sets these flags; the V that stays is written as v."""
    if letters is None:
        return before
    stays = flags("V") & before if "v" in letters else 0
    return before & OTHER_BITS | flags(letters.replace("v", "")) | stays


def all_rows(on_bytes):
    """Every row, the decimal sums too."""
    h, m = (128, 255) if on_bytes else (32768, 65535)
    decimal = [(10,) + row[:4] + (row[4] + "v",) for row in (DECIMAL_BYTES if on_bytes else DECIMAL_WORDS)]
    return sums(h, m) + bits(h, m) + decimal


class OutcomeTest(unittest.TestCase):
    """Each row on a register and on memory, with all other bits of SR set and clear before it."""

    def each(self, on_bytes):
        for what, carry, d, s, result, letters in all_rows(on_bytes):
            for others in (0, flags("ZNV"), OTHER_BITS, OTHER_BITS | flags("ZN"), flags("V")):
                before = others | carry
                kept = d if what in NOT_KEPT else result
                with self.subTest(what=what, d=d, s=s, on_bytes=on_bytes, before=before):
                    yield what, before, d, s, kept, status_behind(before, letters)

    def test_registers_on_words(self):
        for what, before, d, s, kept, status in self.each(False):
            found = asked(load(START, words(two(what, (4, 0), (5, 0)))), put(PC, START), put(4, s), put(5, d),
                          put(SR, before), run(1), get(4), get(5), get(SR), get(PC))
            self.assertEqual(found[5:], [[1], [s], [kept], [status], [START + 2]])

    def test_registers_on_bytes(self):
        for what, before, d, s, kept, status in self.each(True):
            # What the upper bytes hold isn't looked at, and goes where a result is kept.
            found = asked(load(START, words(two(what, (4, 0), (5, 0), True))), put(PC, START), put(4, s + 0x8100),
                          put(5, d + 0x7F00), put(SR, before), run(1), get(4), get(5), get(SR), get(PC))
            upper = 0x7F00 if what in NOT_KEPT else 0
            self.assertEqual(found[5:], [[1], [s + 0x8100], [kept + upper], [status], [START + 2]])

    def test_memory_on_words(self):
        for what, before, d, s, kept, status in self.each(False):
            program = words(two(what, (0, 3), (5, 1)), s, 2)
            found = asked(load(START, program), load(8192, [7, 7] + words(d) + [7, 7]), put(PC, START), put(5, 8192),
                          put(SR, before), run(1), look(8192, 6), get(5), get(SR), get(PC))
            self.assertEqual(found[5:], [[1], [0, 7, 7] + words(kept) + [7, 7], [8192], [status], [START + 6]])

    def test_memory_on_bytes(self):
        for what, before, d, s, kept, status in self.each(True):
            program = words(two(what, (6, 3), (5, 1), True), 1)
            found = asked(load(START, program), load(8192, [0x87, d, 0x87]), load(9217, [s]), put(PC, START),
                          put(5, 8192), put(6, 9217), put(SR, before), run(1), look(8192, 3), get(5), get(6), get(SR),
                          get(PC))
            self.assertEqual(found[7:], [[1], [0, 0x87, kept, 0x87], [8192], [9218], [status], [START + 4]])


# By instruction, with C set: what comes of d 0x8765 and s 0x1234, and of their lower bytes, and the flags.
EACH_ON_WORDS = {
    4: (0x1234, "C"), 5: (0x9999, "N"), 6: (0x999A, "N"), 7: (0x7531, "CV"), 8: (0x7531, "CV"), 9: (0x8765, "CV"),
    10: (0x0000, "CZ"), 11: (0x8765, "C"), 12: (0x8541, "C"), 13: (0x9775, "C"), 14: (0x9551, "CN"), 15: (0x0224, "C"),
}
EACH_ON_BYTES = {
    4: (0x34, "C"), 5: (0x99, "NV"), 6: (0x9A, "NV"), 7: (0x31, "C"), 8: (0x31, "C"), 9: (0x65, "C"),
    10: (0x00, "CZ"), 11: (0x65, "C"), 12: (0x41, "C"), 13: (0x75, "C"), 14: (0x51, "C"), 15: (0x24, "C"),
}


class EachWayTest(ProgramTest):
    """Each instruction with each way of the first (R4) and of the second (R5)."""

    def check_ways(self, what, first_way, second_way, on_bytes):
        result, letters = (EACH_ON_BYTES if on_bytes else EACH_ON_WORDS)[what]
        program = [two(what, (4, first_way), (5, second_way), on_bytes)]
        program += [10] if first_way == 1 else []
        program += [20] if second_way == 1 else []
        first_at = 8202 if first_way == 1 else 8192
        registers = {4: 8192 if first_way else 0x1234, 5: 9216 if second_way else 0x8765, SR: flags("C")}
        memory = {first_at: words(0x1234), 9236: words(0x8765)}
        new_registers = {SR: flags(letters)}
        new_memory = {}
        if first_way == 3:
            new_registers[4] = 8193 if on_bytes else 8194
        if what not in NOT_KEPT and second_way == 0:
            new_registers[5] = result
        elif what not in NOT_KEPT:
            new_memory[9236] = [result] if on_bytes else words(result)
        self.check(program, registers, memory, new_registers, new_memory)

    def test_each(self):
        for what in range(4, 16):
            for first_way in range(4):
                for second_way in range(2):
                    for on_bytes in (False, True):
                        with self.subTest(what=what, ways=(first_way, second_way), on_bytes=on_bytes):
                            self.check_ways(what, first_way, second_way, on_bytes)


class ResultInPcTest(ProgramTest):
    def test_the_lowest_bit_is_lost_and_the_flags_are_by_the_whole_result(self):
        self.check([two(5, (0, 3), (PC, 0)), 5], {}, {}, {PC: START + 8}, {})
        self.check([two(5, (0, 3), (PC, 0)), 65536 - START - 3], {}, {}, {PC: 0, SR: flags("C")}, {})
        self.check([two(5, (0, 3), (PC, 0)), 65536 - START - 4], {}, {}, {PC: 0, SR: flags("CZ")}, {})
        self.check([two(8, (0, 3), (PC, 0)), START + 5], {}, {}, {PC: 65534, SR: flags("N")}, {})

    def test_on_bytes(self):
        self.check([two(5, (3, 3), (PC, 0), True)], {}, {}, {PC: 0, SR: flags("C")}, {})
        self.check([two(13, (0, 3), (PC, 0), True), 0x81], {}, {}, {PC: 0x84}, {})

    def test_nothing_is_kept(self):
        self.check([two(9, (0, 3), (PC, 0)), START + 4], {}, {}, {SR: flags("CZ")}, {})
        self.check([two(11, (0, 3), (PC, 0)), 4], {}, {}, {SR: flags("C")}, {})


class ResultInSpTest(ProgramTest):
    def test_the_lowest_bit_is_lost_and_the_flags_are_by_the_whole_result(self):
        self.check([two(5, (3, 1), (SP, 0))], {SP: 65534}, {}, {SR: flags("N")}, {})
        self.check([two(5, (3, 1), (SP, 0))], {SP: 0}, {}, {SR: 0}, {})
        self.check([two(5, (3, 2), (SP, 0))], {SP: 65534}, {}, {SP: 0, SR: flags("CZ")}, {})
        self.check([two(8, (3, 1), (SP, 0))], {SP: 8192}, {}, {SP: 8190, SR: flags("C")}, {})

    def test_on_bytes(self):
        self.check([two(5, (3, 1), (SP, 0), True)], {SP: 0x12FE}, {}, {SP: 0xFE, SR: flags("N")}, {})

    def test_nothing_is_kept(self):
        self.check([two(9, (3, 1), (SP, 0))], {SP: 8192}, {}, {SR: flags("C")}, {})


class ResultInSrTest(ProgramTest):
    def test_sr_becomes_the_result_on_words(self):
        # Each with SR 261 (C, N and V) and s 6.
        for what, result in ((4, 6), (5, 267), (6, 268), (7, 255), (8, 255), (12, 257), (13, 263), (14, 259), (15, 4)):
            with self.subTest(what=what):
                self.check([two(what, (0, 3), (SR, 0)), 6], {SR: 261}, {}, {SR: result}, {})

    def test_sr_becomes_the_result_on_bytes(self):
        for what, result in ((4, 6), (5, 11), (6, 12), (7, 255), (8, 255), (12, 1), (13, 7), (14, 3), (15, 4)):
            with self.subTest(what=what):
                self.check([two(what, (0, 3), (SR, 0), True), 6], {SR: 261}, {}, {SR: result}, {})

    def test_the_decimal_sum(self):
        # 105 + 6 + 1 is 112; in SR 261, whose digits are 1, 0 and 5.
        self.check([two(10, (0, 3), (SR, 0)), 6], {SR: 0x105}, {}, {SR: 0x112}, {})
        self.check([two(10, (0, 3), (SR, 0), True), 6], {SR: 0x105}, {}, {SR: 0x12}, {})

    def test_of_the_result_nine_bits_are_kept(self):
        self.check([two(4, (3, 3), (SR, 0))], {}, {}, {SR: 511}, {})
        self.check([two(5, (0, 3), (SR, 0)), 0xFE00], {SR: 3}, {}, {}, {})
        self.check([two(5, (0, 3), (SR, 0)), 65536 - 3], {SR: 3}, {}, {SR: 0}, {})

    def test_a_result_of_0_leaves_no_flag(self):
        for what, s in ((5, 0), (8, 0), (14, 0), (15, 3)):
            for on_bytes in (False, True):
                self.check([two(what, (0, 3), (SR, 0), on_bytes), s], {}, {}, {SR: 0}, {})

    def test_flags_are_set_where_nothing_is_kept(self):
        self.check([two(9, (0, 3), (SR, 0)), 233], {SR: 233}, {}, {SR: 232 | flags("CZ")}, {})
        self.check([two(9, (0, 3), (SR, 0)), 234], {SR: 233}, {}, {SR: 232 | flags("N")}, {})
        self.check([two(9, (0, 3), (SR, 0), True), 232], {SR: 488}, {}, {SR: 232 | flags("CZ")}, {})
        self.check([two(11, (0, 3), (SR, 0)), 256], {SR: 488}, {}, {SR: 232 | flags("C")}, {})
        self.check([two(11, (0, 3), (SR, 0), True), 256], {SR: 488}, {}, {SR: 232 | flags("Z")}, {})

    def test_flags_are_set_where_sr_is_the_first(self):
        self.check([two(5, (SR, 0), (5, 0))], {SR: ALL_BUT_STOPPED, 5: 1}, {}, {SR: 232, 5: 496}, {})
        self.check([two(15, (SR, 0), (5, 0), True)], {SR: ALL_BUT_STOPPED, 5: 0xFF80}, {},
                   {SR: 232 | flags("CN"), 5: 0x80}, {})

    def test_flags_are_set_where_memory_is_told_with_r2(self):
        self.check([two(5, (3, 3), (SR, 1)), 8192], {}, {8192: [1, 0]}, {SR: flags("CZ")}, {8192: [0, 0]})


class ResultInR3Test(ProgramTest):
    def test_flags_are_set_and_nothing_is_kept(self):
        # R3 is 0 in all of them, so it was kept in none.
        for what, letters in ((5, ""), (6, ""), (7, "N"), (8, "N"), (9, "N"), (11, "Z"), (14, "C"), (15, "Z")):
            for on_bytes in (False, True):
                with self.subTest(what=what, on_bytes=on_bytes):
                    program = [two(what, (0, 3), (3, 0), on_bytes), 6] * 2
                    self.check(program, {}, {}, {SR: flags(letters)}, {}, n=2)

    def test_those_with_no_flags(self):
        for what in (4, 12, 13):
            program = [two(what, (0, 3), (3, 0)), 6, two(5, (3, 0), (3, 0))]
            self.check(program, {}, {}, {SR: flags("Z")}, {}, n=2)

    def test_the_decimal_sum(self):
        self.check([two(10, (0, 3), (3, 0)), 0x9999], {SR: flags("CV")}, {}, {SR: flags("CZV")}, {})

    def test_it_still_can_t_be_asked(self):
        found = asked(load(START, words(two(4, (3, 1), (3, 0)))), put(PC, START), run(1), get(3))
        self.assertEqual(found[2:], [[1], [-1]])


if __name__ == "__main__":
    unittest.main()
