"""How the calls and the instructions are written as numbers, for all tests."""

import unittest

from wordrunnerdesk.machine import answers

LOWEST = -2147483648
HIGHEST = 2147483647

CLEAR = [1]

PC = 0
SP = 1
SR = 2
# R3 can't be asked.
ASKED = [0, 1, 2] + list(range(4, 16))

# SR's bits by their letters: I is bit 3 (interrupts allowed), S is bit 4 (stopped).
BITS = {"C": 1, "Z": 2, "N": 4, "I": 8, "S": 16, "V": 256}
# All of SR but "stopped".
ALL_BUT_STOPPED = 495

# Where a program lies, if nothing else is said.
START = 512


def load(at, row):
    return [2, at, len(row)] + row


def look(at, n):
    return [3, at, n]


def put(which, value):
    return [4, which, value]


def get(which):
    return [5, which]


def run(n):
    return [6, n]


def interrupt(vector):
    return [7, vector]


def asked(*calls):
    """The answers to these calls behind a ms_clear, one list for each of them."""
    line = list(CLEAR)
    for call in calls:
        line += call
    numbers = answers(line)
    found = []
    place = 0
    while place < len(numbers):
        count = numbers[place]
        answer = numbers[place + 1:place + 1 + count]
        if len(answer) != count:
            raise AssertionError("an answer is shorter than it says")
        found.append(answer)
        place += 1 + count
    if len(found) != len(calls) + 1 or found[0] != [0]:
        raise AssertionError("not one answer for each call")
    return found[1:]


def first_difference(found, expected):
    """None if the lists are equal, else where and how they differ first.

    unittest's own account of two long lists that differ takes hours to make.
    """
    if found == expected:
        return None
    for place, pair in enumerate(zip(found, expected)):
        if pair[0] != pair[1]:
            return (place, pair[0], pair[1])
    return ("lengths", len(found), len(expected))


def flags(letters):
    """SR with the bits of these letters."""
    return sum(BITS[letter] for letter in letters)


def words(*numbers):
    """The bytes of these words."""
    row = []
    for number in numbers:
        row += [number % 256, number // 256]
    return row


def two(what, first, second, on_bytes=False):
    """The word of an instruction with two operands, each of them a register and a way."""
    word = what << 12 | first[0] << 8 | first[1] << 4
    return word | second[1] << 7 | second[0] | (64 if on_bytes else 0)


def one(k, operand, on_bytes=False):
    """The word of an instruction with one operand, a register and a way."""
    return 4096 | k << 7 | operand[1] << 4 | operand[0] | (64 if on_bytes else 0)


def jump(k, distance):
    """The word of a jump by so many words."""
    return 8192 | k << 10 | distance % 1024


def looks_at_all():
    """Calls that show the whole memory."""
    return [look(at, min(2000, 65536 - at)) for at in range(0, 65536, 2000)]


def state_behind(calls):
    """What these calls answer, the registers behind them (R3 as None), and the memory."""
    found = asked(*calls, *[get(which) for which in ASKED], *looks_at_all())
    registers = [None] * 16
    for which, answer in zip(ASKED, found[len(calls):]):
        registers[which] = answer[0]
    memory = []
    for answer in found[len(calls) + len(ASKED):]:
        memory += answer[1:]
    return found[:len(calls)], registers, memory


class ProgramTest(unittest.TestCase):
    """Tests that run a program and look at the whole machine behind it."""

    def check(self, program, registers, memory, new_registers, new_memory, n=1, done=None, at=START):
        """Run n instructions; all is as it was but PC, which is behind the program, and what is told as new.

        Registers are told by their numbers, memory by places and the bytes from there on.
        """
        before = [0] * 16
        before[3] = None
        calls = [load(at, words(*program))]
        for place, row in memory.items():
            calls.append(load(place, row))
        for which, value in registers.items():
            calls.append(put(which, value))
            before[which] = value
        found, held, bytes_held = state_behind(calls + [put(PC, at), run(n)])
        expected = list(before)
        expected[PC] = (at + 2 * len(program)) % 65536
        for which, value in new_registers.items():
            expected[which] = value
        bytes_expected = [0] * 65536
        for place, row in [(at, words(*program))] + list(memory.items()) + list(new_memory.items()):
            bytes_expected[place:place + len(row)] = row
        self.assertEqual(found, [[0]] * (len(found) - 1) + [[n if done is None else done]])
        self.assertEqual(held, expected)
        self.assertIsNone(first_difference(bytes_held, bytes_expected))
