"""The instructions with one operand, and the word 0001001100000000."""

import unittest

from tests.helper import (ALL_BUT_STOPPED, PC, SP, SR, START, ProgramTest, asked, flags, get, load, look, one, put, run,
                          words)

ROTATE = 0
SWAP_BYTES = 1
HALVE = 2
WIDEN_SIGN = 3
PUSH = 4
CALL = 5
RETURN = 0b0001001100000000

OTHERS = list(range(4, 16))
# Of SR what no flag has, without "stopped".
OTHER_BITS = 232


def rows_right(h, m):
    """Rows of k, C, x, the result and its flags of those to the right; h is q / 2 and m is q - 1."""
    rows = [(ROTATE, 0) + row for row in (
        (0, 0, "Z"), (1, 0, "CZ"), (2, 1, ""), (3, 1, "C"), (h, h // 2, ""), (m, h - 1, "C"), (h - 1, h // 2 - 1, "C"),
        (h + 1, h // 2, "C"))]
    rows += [(ROTATE, 1) + row for row in (
        (0, h, "N"), (1, h, "CN"), (2, h + 1, "N"), (3, h + 1, "CN"), (h, h + h // 2, "N"), (m, m, "CN"),
        (h - 1, h + h // 2 - 1, "CN"))]
    rows += [(HALVE, carry) + row for carry in (0, 1) for row in (
        (0, 0, "Z"), (1, 0, "CZ"), (2, 1, ""), (3, 1, "C"), (h, h + h // 2, "N"), (h + 1, h + h // 2, "CN"),
        (m, m, "CN"), (m - 1, m, "N"), (h - 1, h // 2 - 1, "C"), (h - 2, h // 2 - 1, ""))]
    return rows


WORDS_ALONE = [(SWAP_BYTES, carry) + row for carry in (0, 1) for row in (
    (0x1234, 0x3412, None), (0, 0, None), (0xFF00, 0x00FF, None), (0x00FF, 0xFF00, None), (0xFFFF, 0xFFFF, None),
    (0x0080, 0x8000, None), (0x0100, 0x0001, None))]
WORDS_ALONE += [(WIDEN_SIGN, carry) + row for carry in (0, 1) for row in (
    (0x007F, 0x007F, "C"), (0x0080, 0xFF80, "CN"), (0x00FF, 0xFFFF, "CN"), (0, 0, "Z"), (0xFF00, 0, "Z"),
    (0x12FF, 0xFFFF, "CN"), (0x8001, 0x0001, "C"), (0xFF7F, 0x007F, "C"), (0x0180, 0xFF80, "CN"))]


def all_rows(on_bytes):
    return rows_right(128, 255) if on_bytes else rows_right(32768, 65535) + WORDS_ALONE


class OutcomeTest(unittest.TestCase):
    """Each row on a register and on memory, with all other bits of SR set and clear before it."""

    def each(self, on_bytes):
        for k, carry, x, result, letters in all_rows(on_bytes):
            for others in (0, flags("ZNV"), OTHER_BITS, OTHER_BITS | flags("ZN"), flags("V")):
                before = others | carry
                status = before if letters is None else before & OTHER_BITS | flags(letters)
                with self.subTest(k=k, x=x, on_bytes=on_bytes, before=before):
                    yield k, before, x, result, status

    def test_registers_on_words(self):
        for k, before, x, result, status in self.each(False):
            found = asked(load(START, words(one(k, (4, 0)))), put(PC, START), put(4, x), put(SR, before), run(1),
                          get(4), get(SR), get(PC))
            self.assertEqual(found[4:], [[1], [result], [status], [START + 2]])

    def test_registers_on_bytes(self):
        for k, before, x, result, status in self.each(True):
            found = asked(load(START, words(one(k, (4, 0), True))), put(PC, START), put(4, x + 0x8100), put(SR, before),
                          run(1), get(4), get(SR), get(PC))
            self.assertEqual(found[4:], [[1], [result], [status], [START + 2]])

    def test_memory_on_words(self):
        for k, before, x, result, status in self.each(False):
            found = asked(load(START, words(one(k, (4, 1)), 2)), load(8192, [7, 7] + words(x) + [7, 7]), put(PC, START),
                          put(4, 8192), put(SR, before), run(1), look(8192, 6), get(SR), get(PC))
            self.assertEqual(found[5:], [[1], [0, 7, 7] + words(result) + [7, 7], [status], [START + 4]])

    def test_memory_on_bytes(self):
        for k, before, x, result, status in self.each(True):
            found = asked(load(START, words(one(k, (4, 2), True))), load(8192, [0x87, x, 0x87]), put(PC, START),
                          put(4, 8193), put(SR, before), run(1), look(8192, 3), get(SR), get(PC))
            self.assertEqual(found[5:], [[1], [0, 0x87, result, 0x87], [status], [START + 2]])


class WhereTheResultGoesTest(ProgramTest):
    """By each way: 0xA5C2 becomes 0x52E1, and its lower byte 0x61, to the right; its bytes change places."""

    def test_each_register(self):
        for which in OTHERS:
            self.check([one(ROTATE, (which, 0))], {which: 0xA5C2}, {}, {which: 0x52E1}, {})
            self.check([one(ROTATE, (which, 0), True)], {which: 0xA5C2}, {}, {which: 0x61}, {})
            self.check([one(SWAP_BYTES, (which, 0))], {which: 0xA5C2}, {}, {which: 0xC2A5}, {})
            self.check([one(HALVE, (which, 0))], {which: 0xA5C2}, {}, {which: 0xD2E1, SR: flags("N")}, {})
            self.check([one(WIDEN_SIGN, (which, 0))], {which: 0xA542}, {}, {which: 0x42, SR: flags("C")}, {})

    def test_memory_by_each_register(self):
        for which in OTHERS:
            memory = {8192: [0xC2, 0xA5, 0xC2, 0xA5]}
            self.check([one(ROTATE, (which, 1)), 2], {which: 8192}, memory, {}, {8194: [0xE1, 0x52]})
            self.check([one(ROTATE, (which, 1), True), 2], {which: 8192}, memory, {}, {8194: [0x61]})
            self.check([one(ROTATE, (which, 2))], {which: 8192}, memory, {}, {8192: [0xE1, 0x52]})
            self.check([one(ROTATE, (which, 2), True)], {which: 8192}, memory, {}, {8192: [0x61]})
            self.check([one(ROTATE, (which, 3))], {which: 8192}, memory, {which: 8194}, {8192: [0xE1, 0x52]})
            self.check([one(ROTATE, (which, 3), True)], {which: 8192}, memory, {which: 8193}, {8192: [0x61]})

    def test_each_k_by_each_way(self):
        for k, result, letters in ((ROTATE, 0x52E1, ""), (SWAP_BYTES, 0xC2A5, ""), (HALVE, 0xD2E1, "N"),
                                   (WIDEN_SIGN, 0xFFC2, "CN")):
            memory = {8192: words(0xA5C2, 0xA5C2)}
            status = flags(letters)
            self.check([one(k, (4, 0))], {4: 0xA5C2}, {}, {4: result, SR: status}, {})
            self.check([one(k, (4, 1)), 2], {4: 8192}, memory, {SR: status}, {8194: words(result)})
            self.check([one(k, (4, 2))], {4: 8192}, memory, {SR: status}, {8192: words(result)})
            self.check([one(k, (4, 3))], {4: 8192}, memory, {4: 8194, SR: status}, {8192: words(result)})

    def test_each_k_on_bytes_by_each_way(self):
        for k, result, letters in ((ROTATE, 0x61, ""), (HALVE, 0xE1, "N")):
            memory = {8192: words(0xA5C2, 0xA5C2)}
            status = flags(letters)
            self.check([one(k, (4, 0), True)], {4: 0xA5C2}, {}, {4: result, SR: status}, {})
            self.check([one(k, (4, 1), True), 2], {4: 8192}, memory, {SR: status}, {8194: [result]})
            self.check([one(k, (4, 2), True)], {4: 8192}, memory, {SR: status}, {8192: [result]})
            self.check([one(k, (4, 3), True)], {4: 8192}, memory, {4: 8193, SR: status}, {8192: [result]})

    def test_odd_places(self):
        memory = {8190: [7, 7, 0xC2, 0xA5, 7, 7]}
        self.check([one(ROTATE, (4, 2))], {4: 8193}, memory, {}, {8192: [0xE1, 0x52]})
        self.check([one(ROTATE, (4, 3))], {4: 8193}, memory, {4: 8195}, {8192: [0xE1, 0x52]})
        self.check([one(ROTATE, (4, 1)), 1], {4: 8192}, memory, {}, {8192: [0xE1, 0x52]})
        self.check([one(ROTATE, (4, 3), True)], {4: 8193}, memory, {4: 8194, SR: flags("C")}, {8193: [0x52]})

    def test_pc(self):
        # START + 2 is 514: by one to the right 257, which PC keeps as 256.
        self.check([one(ROTATE, (PC, 0))], {}, {}, {PC: 256}, {})
        self.check([one(HALVE, (PC, 0), True)], {}, {}, {PC: 0}, {})
        self.check([one(SWAP_BYTES, (PC, 0))], {}, {}, {PC: 514}, {})
        self.check([one(WIDEN_SIGN, (PC, 0))], {}, {}, {PC: 2, SR: flags("C")}, {})
        self.check([one(ROTATE, (PC, 1)), 100], {}, {START + 102: [0xC2, 0xA5]}, {}, {START + 102: [0xE1, 0x52]})

    def test_the_word_behind_the_instruction(self):
        # It is memory too, so the result goes there.
        self.check([one(ROTATE, (PC, 2)), 0xA5C2], {}, {}, {PC: START + 2}, {START + 2: [0xE1, 0x52]})
        self.check([one(ROTATE, (PC, 3)), 0xA5C2], {}, {}, {}, {START + 2: [0xE1, 0x52]})
        self.check([one(ROTATE, (PC, 3), True), 0xA5C2], {}, {}, {}, {START + 2: [0x61]})

    def test_sp(self):
        self.check([one(ROTATE, (SP, 0))], {SP: 0xA5C2}, {}, {SP: 0x52E0}, {})
        self.check([one(ROTATE, (SP, 0), True)], {SP: 0xA5C2}, {}, {SP: 0x60}, {})
        memory = {8192: [0xC2, 0xA5]}
        self.check([one(ROTATE, (SP, 1)), 2], {SP: 8190}, memory, {}, {8192: [0xE1, 0x52]})
        self.check([one(ROTATE, (SP, 2))], {SP: 8192}, memory, {}, {8192: [0xE1, 0x52]})
        self.check([one(ROTATE, (SP, 3))], {SP: 8192}, memory, {SP: 8194}, {8192: [0xE1, 0x52]})
        self.check([one(ROTATE, (SP, 3), True)], {SP: 8192}, memory, {SP: 8194}, {8192: [0x61]})

    def test_the_flags_of_pc_and_sp_are_by_the_whole_result(self):
        self.check([one(ROTATE, (SP, 0))], {SP: 2}, {}, {SP: 0, SR: 0}, {})
        self.check([one(HALVE, (SP, 0))], {SP: 0}, {}, {SR: flags("Z")}, {})

    def test_memory_by_r2_counts_from_0(self):
        self.check([one(ROTATE, (SR, 1)), 8192], {SR: 232}, {8192: [0xC2, 0xA5]}, {}, {8192: [0xE1, 0x52]})


class OperandIsSrTest(ProgramTest):
    def test_sr_becomes_the_result(self):
        for k, before, behind in ((ROTATE, 0x1EF, 0x0F7), (ROTATE, 0x1EE, 0x0F7), (ROTATE, 2, 1), (ROTATE, 1, 0),
                                  (SWAP_BYTES, 0x1EF, 0x101), (SWAP_BYTES, 0x103, 0x101), (HALVE, 0x1EF, 0x0F7),
                                  (HALVE, 1, 0), (HALVE, 0, 0), (WIDEN_SIGN, 0x1EF, 0x1EF), (WIDEN_SIGN, 0x08F, 0x18F),
                                  (WIDEN_SIGN, 0x107, 0x007), (WIDEN_SIGN, 0x100, 0)):
            with self.subTest(k=k, before=before):
                self.check([one(k, (SR, 0))], {SR: before}, {}, {SR: behind}, {})

    def test_on_bytes(self):
        for k, before, behind in ((ROTATE, 0x1EF, 0x0F7), (ROTATE, 0x1EE, 0x077), (ROTATE, 1, 0x080),
                                  (HALVE, 0x1EF, 0x0F7), (HALVE, 0x16F, 0x037), (HALVE, 0x100, 0), (HALVE, 1, 0)):
            with self.subTest(k=k, before=before):
                self.check([one(k, (SR, 0), True)], {SR: before}, {}, {SR: behind}, {})


class OperandIsNumberTest(ProgramTest):
    """Nothing's kept, but flags are set."""

    def test_to_the_right(self):
        for operand, letters in (((3, 0), "Z"), ((3, 1), "CZ"), ((3, 2), ""), ((SR, 2), ""), ((SR, 3), "")):
            for k in (ROTATE, HALVE):
                for on_bytes in (False, True):
                    with self.subTest(k=k, operand=operand, on_bytes=on_bytes):
                        self.check([one(k, operand, on_bytes)], {SR: 256 | OTHER_BITS}, {0: [7] * 10},
                                   {SR: OTHER_BITS | flags(letters)}, {})

    def test_to_the_right_with_the_number_of_all_bits(self):
        for on_bytes in (False, True):
            self.check([one(ROTATE, (3, 3), on_bytes)], {}, {}, {SR: flags("C")}, {})
            self.check([one(ROTATE, (3, 3), on_bytes)], {SR: 1}, {}, {SR: flags("CN")}, {})
            self.check([one(HALVE, (3, 3), on_bytes)], {}, {}, {SR: flags("CN")}, {})

    def test_the_bytes_change_places(self):
        for operand in ((3, 0), (3, 1), (3, 2), (3, 3), (SR, 2), (SR, 3)):
            self.check([one(SWAP_BYTES, operand)], {SR: ALL_BUT_STOPPED}, {}, {}, {})

    def test_the_lower_byte_with_its_sign(self):
        for operand, letters in (((3, 0), "Z"), ((3, 1), "C"), ((3, 2), "C"), ((3, 3), "CN"), ((SR, 2), "C"),
                                 ((SR, 3), "C")):
            self.check([one(WIDEN_SIGN, operand)], {SR: 256 | OTHER_BITS}, {}, {SR: OTHER_BITS | flags(letters)}, {})

    def test_r3_stays_0(self):
        self.check([one(ROTATE, (3, 0)), one(ROTATE, (3, 0))], {SR: 1}, {}, {SR: flags("Z")}, {}, n=2)
        self.assertEqual(asked(load(START, words(one(ROTATE, (3, 0)))), put(PC, START), put(SR, 1), run(1), get(3))[3:],
                         [[1], [-1]])


class PushTest(ProgramTest):
    def test_each_register(self):
        for which in OTHERS:
            self.check([one(PUSH, (which, 0))], {which: 0xA5C3, SP: 1000}, {996: [7] * 6}, {SP: 998},
                       {998: [0xC3, 0xA5]})

    def test_a_byte_alone(self):
        for which in OTHERS:
            self.check([one(PUSH, (which, 0), True)], {which: 0xA5C3, SP: 1000}, {996: [7] * 6}, {SP: 998},
                       {998: [0xC3]})

    def test_memory(self):
        memory = {8192: [0xC3, 0xA5]}
        for on_bytes, row, more in ((False, [0xC3, 0xA5], 2), (True, [0xC3], 1)):
            self.check([one(PUSH, (4, 1), on_bytes), 2], {4: 8190, SP: 1000}, memory, {SP: 998}, {998: row})
            self.check([one(PUSH, (4, 2), on_bytes)], {4: 8192, SP: 1000}, memory, {SP: 998}, {998: row})
            self.check([one(PUSH, (4, 3), on_bytes)], {4: 8192, SP: 1000}, memory, {SP: 998, 4: 8192 + more},
                       {998: row})

    def test_numbers(self):
        for operand, number in (((3, 0), 0), ((3, 1), 1), ((3, 2), 2), ((3, 3), 65535), ((SR, 2), 4), ((SR, 3), 8)):
            self.check([one(PUSH, operand)], {SP: 1000}, {998: [7, 7]}, {SP: 998}, {998: words(number)})
            self.check([one(PUSH, operand, True)], {SP: 1000}, {998: [7, 7]}, {SP: 998}, {998: [number % 256]})

    def test_pc(self):
        self.check([one(PUSH, (PC, 0))], {SP: 1000}, {}, {SP: 998}, {998: words(START + 2)})
        self.check([one(PUSH, (PC, 1)), 100], {SP: 1000}, {START + 102: [0xC3, 0xA5]}, {SP: 998}, {998: [0xC3, 0xA5]})
        self.check([one(PUSH, (PC, 2)), 0xA5C3], {SP: 1000}, {}, {SP: 998, PC: START + 2}, {998: [0xC3, 0xA5]})
        self.check([one(PUSH, (PC, 3)), 0xA5C3], {SP: 1000}, {}, {SP: 998}, {998: [0xC3, 0xA5]})
        self.check([one(PUSH, (PC, 3), True), 0xA5C3], {SP: 1000}, {}, {SP: 998}, {998: [0xC3]})

    def test_sp_as_it_was_before(self):
        self.check([one(PUSH, (SP, 0))], {SP: 1000}, {}, {SP: 998}, {998: words(1000)})
        self.check([one(PUSH, (SP, 0), True)], {SP: 1000}, {}, {SP: 998}, {998: [1000 % 256]})

    def test_memory_by_sp(self):
        memory = {996: [0x11, 0x22, 0x33, 0x44, 0x55, 0x66, 0x77, 0x88]}
        self.check([one(PUSH, (SP, 1)), 2], {SP: 1000}, memory, {SP: 998}, {998: [0x77, 0x88]})
        self.check([one(PUSH, (SP, 2))], {SP: 1000}, memory, {SP: 998}, {998: [0x55, 0x66]})
        # SP goes on by 2, and comes back.
        self.check([one(PUSH, (SP, 3))], {SP: 1000}, memory, {}, {})
        self.check([one(PUSH, (SP, 3), True)], {SP: 1000}, memory, {}, {})

    def test_sr(self):
        self.check([one(PUSH, (SR, 0))], {SP: 1000, SR: ALL_BUT_STOPPED}, {}, {SP: 998}, {998: words(ALL_BUT_STOPPED)})
        self.check([one(PUSH, (SR, 0), True)], {SP: 1000, SR: ALL_BUT_STOPPED}, {}, {SP: 998}, {998: [0xEF]})
        self.check([one(PUSH, (SR, 1)), 8192], {SP: 1000, SR: 232}, {8192: [0xC3, 0xA5]}, {SP: 998},
                   {998: [0xC3, 0xA5]})

    def test_below_0(self):
        self.check([one(PUSH, (4, 0))], {4: 0xA5C3, SP: 0}, {}, {SP: 65534}, {65534: [0xC3, 0xA5]})
        self.check([one(PUSH, (4, 0), True)], {4: 0xA5C3, SP: 0}, {}, {SP: 65534}, {65534: [0xC3]})
        self.check([one(PUSH, (4, 0))], {4: 0xA5C3, SP: 2}, {}, {SP: 0}, {0: [0xC3, 0xA5]})

    def test_no_flags(self):
        self.check([one(PUSH, (3, 0))], {SR: ALL_BUT_STOPPED, SP: 1000}, {}, {SP: 998}, {})


class CallTest(ProgramTest):
    def test_each_register(self):
        for which in OTHERS:
            self.check([one(CALL, (which, 0))], {which: 0xA5C2, SP: 1000}, {996: [7] * 6}, {SP: 998, PC: 0xA5C2},
                       {998: words(START + 2)})

    def test_the_lowest_bit_is_lost(self):
        self.check([one(CALL, (4, 0))], {4: 0xA5C3, SP: 1000}, {}, {SP: 998, PC: 0xA5C2}, {998: words(START + 2)})

    def test_memory(self):
        memory = {8192: [0xC2, 0xA5]}
        self.check([one(CALL, (4, 1)), 2], {4: 8190, SP: 1000}, memory, {SP: 998, PC: 0xA5C2}, {998: words(START + 4)})
        self.check([one(CALL, (4, 2))], {4: 8192, SP: 1000}, memory, {SP: 998, PC: 0xA5C2}, {998: words(START + 2)})
        self.check([one(CALL, (4, 3))], {4: 8192, SP: 1000}, memory, {SP: 998, PC: 0xA5C2, 4: 8194},
                   {998: words(START + 2)})
        self.check([one(CALL, (SR, 1)), 8192], {SP: 1000, SR: 232}, memory, {SP: 998, PC: 0xA5C2},
                   {998: words(START + 4)})

    def test_numbers(self):
        for operand, goal in (((3, 0), 0), ((3, 1), 0), ((3, 2), 2), ((3, 3), 65534), ((SR, 2), 4), ((SR, 3), 8)):
            self.check([one(CALL, operand)], {SP: 1000}, {}, {SP: 998, PC: goal}, {998: words(START + 2)})

    def test_sr(self):
        self.check([one(CALL, (SR, 0))], {SP: 1000, SR: 0x1EF}, {}, {SP: 998, PC: 0x1EE}, {998: words(START + 2)})

    def test_pc(self):
        self.check([one(CALL, (PC, 0))], {SP: 1000}, {}, {SP: 998}, {998: words(START + 2)})
        self.check([one(CALL, (PC, 1)), 100], {SP: 1000}, {START + 102: [0xC2, 0xA5]}, {SP: 998, PC: 0xA5C2},
                   {998: words(START + 4)})
        self.check([one(CALL, (PC, 2)), 0xA5C2], {SP: 1000}, {}, {SP: 998, PC: 0xA5C2}, {998: words(START + 2)})
        self.check([one(CALL, (PC, 3)), 0xA5C2], {SP: 1000}, {}, {SP: 998, PC: 0xA5C2}, {998: words(START + 4)})

    def test_sp_as_it_was_before(self):
        self.check([one(CALL, (SP, 0))], {SP: 1000}, {}, {SP: 998, PC: 1000}, {998: words(START + 2)})

    def test_memory_by_sp(self):
        memory = {998: [0x32, 0x44, 0x54, 0x66, 0x76, 0x88]}
        self.check([one(CALL, (SP, 1)), 2], {SP: 1000}, memory, {SP: 998, PC: 0x8876}, {998: words(START + 4)})
        self.check([one(CALL, (SP, 2))], {SP: 1000}, memory, {SP: 998, PC: 0x6654}, {998: words(START + 2)})
        self.check([one(CALL, (SP, 3))], {SP: 1000}, memory, {SP: 1000, PC: 0x6654}, {1000: words(START + 2)})
        # What is taken lies where PC is pushed.
        self.check([one(CALL, (SP, 1)), 65534], {SP: 1000}, memory, {SP: 998, PC: 0x4432}, {998: words(START + 4)})

    def test_below_0(self):
        self.check([one(CALL, (4, 0))], {4: 0xA5C2, SP: 0}, {}, {SP: 65534, PC: 0xA5C2}, {65534: words(START + 2)})

    def test_no_flags(self):
        self.check([one(CALL, (3, 0))], {SR: ALL_BUT_STOPPED, SP: 1000}, {}, {SP: 998, PC: 0}, {998: words(START + 2)})


class ReturnTest(ProgramTest):
    def test_sr_and_then_pc(self):
        self.check([RETURN], {SP: 1000, SR: 3}, {1000: words(265, 0xA5C2)}, {SP: 1004, SR: 265, PC: 0xA5C2}, {})

    def test_as_they_are_kept(self):
        self.check([RETURN], {SP: 1000}, {1000: words(0xFFEF, 0xA5C3)}, {SP: 1004, SR: 0x1EF, PC: 0xA5C2}, {})
        self.check([RETURN], {SP: 1000, SR: 0x1EF}, {1000: words(0xFE00, 1)}, {SP: 1004, SR: 0, PC: 0}, {})

    def test_past_65535(self):
        self.check([RETURN], {SP: 65532}, {65532: words(7, 2000)}, {SP: 0, SR: 7, PC: 2000}, {})
        self.check([RETURN], {SP: 65534}, {65534: words(7), 0: words(2000)}, {SP: 2, SR: 7, PC: 2000}, {})


if __name__ == "__main__":
    unittest.main()
