"""The document told a second time, in another form, and asked the same as the program."""

import random
import unittest

from tests.helper import (ASKED, PC, SR, START, first_difference, get, interrupt, load, look, looks_at_all, put, run,
                          words)
from wordrunnerdesk.machine import answers

SEED = 16


class Told:
    """One machine; an operand is told as two functions, one that takes it and one that keeps a result there."""

    def __init__(self):
        self.clear()

    def clear(self):
        self.r = {which: 0 for which in range(16)}
        self.bytes = bytearray(65536)

    def set(self, which, value):
        value %= 65536
        if which in (0, 1):
            value -= value % 2
        elif which == 2:
            value %= 512
        elif which == 3:
            value = 0
        self.r[which] = value

    def word(self, at):
        at = at % 65536 // 2 * 2
        return int.from_bytes(self.bytes[at:at + 2], "little")

    def set_word(self, at, value):
        at = at % 65536 // 2 * 2
        self.bytes[at:at + 2] = value.to_bytes(2, "little")

    def following(self):
        found = self.word(self.r[0])
        self.set(0, self.r[0] + 2)
        return found

    def push(self, value):
        self.set(1, self.r[1] - 2)
        self.set_word(self.r[1], value)

    def pull(self):
        found = self.word(self.r[1])
        self.set(1, self.r[1] + 2)
        return found

    def flag(self, letter):
        return self.r[2] >> "CZN?????V".index(letter) & 1

    def set_flags(self, **told):
        for letter, value in told.items():
            bit = 1 << "CZN?????V".index(letter)
            self.r[2] = self.r[2] | bit if value else self.r[2] & ~bit

    def of_register(self, which, q):
        return (lambda: self.r[which] % q), (lambda result: self.set(which, result))

    def of_memory(self, at, q):
        at %= 65536
        if q == 65536:
            return (lambda: self.word(at)), (lambda result: self.set_word(at, result))
        return (lambda: self.bytes[at]), (lambda result: self.bytes.__setitem__(at, result))

    def of_number(self, number):
        return (lambda: number), (lambda result: None)

    def beyond(self, which, q):
        base = {2: 0}.get(which, self.r[which])
        return self.of_memory(base + self.following(), q)

    def first(self, which, way, q):
        numbers = {(3, 0): 0, (3, 1): 1, (3, 2): 2, (3, 3): q - 1, (2, 2): 4, (2, 3): 8}
        if (which, way) in numbers:
            return self.of_number(numbers[which, way])
        if way < 2:
            return self.second(which, way, q)
        at = self.r[which]
        if way == 3:
            self.set(which, at + (1 if q == 256 and which not in (0, 1) else 2))
        return self.of_memory(at, q)

    def second(self, which, way, q):
        return self.beyond(which, q) if way else self.of_register(which, q)

    def is_instruction(self, word):
        bits = f"{word:016b}"
        if bits[:3] == "001" or int(bits[:4], 2) >= 4 or bits == "0001001100000000":
            return True
        if bits[:6] != "000100":
            return False
        return bits[6:9] in ("000", "010", "100") or bits[6:10] in ("0010", "0110", "1010")

    def step(self):
        word = self.following()
        if word >> 13 == 1:
            self.jump(word)
        elif word == 0b0001001100000000:
            self.set(2, self.pull())
            self.set(0, self.pull())
        elif word >> 12 == 1:
            self.one(word >> 7 & 7, word & 15, word >> 4 & 3, 256 if word & 64 else 65536)
        else:
            self.two(word >> 12, word, 256 if word & 64 else 65536)

    def jump(self, word):
        c, z, n, v = (self.flag(letter) for letter in "CZNV")
        holds = [not z, z, not c, c, n, n == v, n != v, True][word >> 10 & 7]
        distance = word & 511
        if word & 512:
            distance -= 512
        if holds:
            self.set(0, self.r[0] + 2 * distance)

    def one(self, k, which, way, q):
        take, keep = self.first(which, way, q)
        x = take()
        if k == 4:
            self.set(1, self.r[1] - 2)
            self.of_memory(self.r[1], q)[1](x)
        elif k == 5:
            self.push(self.r[0])
            self.set(0, x)
        elif k == 1:
            keep(int.from_bytes(x.to_bytes(2, "little"), "big"))
        else:
            if k == 3:
                result = (x % 256 ^ 128) - 128
                carry = result != 0
            else:
                top = self.flag("C") if k == 0 else x * 2 // q
                result = (x + top * q) // 2
                carry = x % 2
            result %= q
            self.set_flags(C=carry, Z=result == 0, N=result * 2 >= q, V=False)
            keep(result)

    def two(self, what, word, q):
        s = self.first(word >> 8 & 15, word >> 4 & 3, q)[0]()
        take, keep = self.second(word & 15, word >> 7 & 1, q)
        d = take()
        told = {}
        if what in (5, 6, 7, 8, 9):
            added = s if what < 7 else q - 1 - s
            more = {5: 0, 6: self.flag("C"), 7: self.flag("C"), 8: 1, 9: 1}[what]
            result = d + added + more
            # The sum of the numbers with their signs is outside what q holds with a sign.
            signed = sum(number - q if number * 2 >= q else number for number in (d, added)) + more
            told = {"C": result >= q, "V": not -q // 2 <= signed < q // 2}
            result %= q
        elif what == 10:
            digits = 2 if q == 256 else 4
            carry = self.flag("C")
            shown = ""
            for a, b in reversed(list(zip(f"{d:0{digits}x}", f"{s:0{digits}x}"))):
                t = int(a, 16) + int(b, 16) + carry
                carry = int(t >= 10)
                shown = f"{(t - 10 * carry) % 16:x}" + shown
            result = int(shown, 16)
            told = {"C": carry}
        else:
            result = {4: s, 11: d & s, 12: d & ~s, 13: d | s, 14: d ^ s, 15: d & s}[what]
            if what in (11, 14, 15):
                told = {"C": result != 0, "V": what == 14 and d * 2 >= q and s * 2 >= q}
        if told and not (word & 143 == 2 and what not in (9, 11)):
            self.set_flags(Z=result == 0, N=result * 2 >= q, **told)
        if what not in (9, 11):
            keep(result)

    def run(self, n):
        if not 0 <= n <= 1000000:
            return -1
        for done in range(n):
            if self.r[2] & 16 or not self.is_instruction(self.word(self.r[0])):
                return done
            self.step()
        return n

    def interrupt(self, vector):
        if vector not in range(65472, 65536, 2):
            return -1
        if not self.r[2] & 8:
            return 0
        self.push(self.r[0])
        self.push(self.r[2])
        self.set(2, 0)
        self.set(0, self.word(vector))
        return 1


def told_answers(calls):
    """What the second telling answers to a list of calls, of which none is refused for at, n or which."""
    machine = Told()
    given = []
    place = 0
    while place < len(calls):
        kind = calls[place]
        first, second = (calls[place + 1:place + 3] + [0, 0])[:2]
        place += {1: 1, 2: 3 + second, 3: 3, 4: 3, 5: 2, 6: 2, 7: 2}[kind]
        if kind == 1:
            machine.clear()
            answer = [0]
        elif kind == 2:
            machine.bytes[first:first + second] = bytes(calls[place - second:place])
            answer = [0]
        elif kind == 3:
            answer = [0] + list(machine.bytes[first:first + second])
        elif kind == 4:
            machine.set(first, second)
            answer = [0]
        elif kind == 5:
            answer = [machine.r[first]]
        elif kind == 6:
            answer = [machine.run(first)]
        else:
            answer = [machine.interrupt(first)]
        given += [len(answer)] + answer
    return given


def any_word(chance):
    """A word that is most often an instruction."""
    sort = chance.random()
    if sort < 0.6:
        return chance.randrange(16384, 65536)
    if sort < 0.8:
        return chance.randrange(4096, 4096 + 6 * 128)
    if sort < 0.95:
        return chance.randrange(8192, 16384)
    return chance.choice([4864, 0, chance.randrange(65536)])


def any_number(chance):
    """A number that often lies at an edge."""
    if chance.random() < 0.5:
        return chance.choice([0, 1, 2, 127, 128, 129, 255, 256, 32767, 32768, 32769, 65533, 65534, 65535])
    return chance.randrange(65536)


def any_status(chance):
    """An SR that is seldom stopped."""
    return chance.randrange(512) & (511 if chance.random() < 0.05 else 495)


def any_line(chance):
    """A line of calls of all sorts, over memory that holds instructions for the most part."""
    line = [[1]]
    places = [0, 65536 - 2000] + [chance.randrange(0, 63000) for place in range(4)]
    for at in places:
        line.append(load(at, words(*[any_word(chance) for place in range(1000)])))
    line += [put(which, any_number(chance)) for which in ASKED]
    line += [put(PC, chance.choice(places)), put(SR, any_status(chance))]
    while len(line) < 340:
        sort = chance.random()
        if sort < 0.7:
            line += [run(chance.choice([1, 1, 1, 2, 3, 10, 100])), get(PC), get(SR), get(chance.choice(ASKED))]
        elif sort < 0.8:
            line.append(put(chance.choice(ASKED), any_number(chance)))
        elif sort < 0.85:
            line.append(interrupt(chance.randrange(65470, 65538)))
        else:
            line.append(look(chance.randrange(65500), chance.randrange(37)))
        # So that it goes on, wherever it has ended.
        if chance.random() < 0.4:
            line += [put(PC, chance.choice(places) + 2 * chance.randrange(900)), put(SR, any_status(chance))]
    return line + [get(which) for which in ASKED] + looks_at_all()


def line_of_words(first, chance):
    """A line that does each of 64 words from a first one on."""
    line = [[1]] + [put(which, any_number(chance)) for which in ASKED]
    for word in range(first, first + 64):
        line += [load(START, words(word, any_number(chance), any_number(chance))), put(PC, START),
                 put(SR, any_status(chance)), run(1), get(SR)]
    return line + [get(which) for which in ASKED] + looks_at_all()


class SecondTellingTest(unittest.TestCase):
    def compare(self, line):
        calls = [number for call in line for number in call]
        self.assertLessEqual(len(line), 400)
        self.assertLessEqual(len(calls), 30000)
        self.assertIsNone(first_difference(answers(calls), told_answers(calls)))

    def test_lines_of_calls(self):
        for number in range(250):
            with self.subTest(number=number):
                self.compare(any_line(random.Random(SEED * 1000 + number)))

    def test_every_word(self):
        chance = random.Random(SEED)
        for first in range(0, 65536, 64):
            with self.subTest(first=first):
                self.compare(line_of_words(first, chance))


if __name__ == "__main__":
    unittest.main()
