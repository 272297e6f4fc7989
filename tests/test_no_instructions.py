"""Which words are instructions, and which are none."""

import unittest

from tests.helper import ASKED, PC, START, ProgramTest, asked, get, load, put, run, words

# The first and the last word of each row of words that are no instructions.
NO_INSTRUCTIONS = [
    (0b0000000000000000, 0b0000111111111111),
    # k 1, 3 and 5 on bytes
    (0b0001000011000000, 0b0001000011111111),
    (0b0001000111000000, 0b0001000111111111),
    (0b0001001011000000, 0b0001001011111111),
    # k 6, but for one word, and k 7
    (0b0001001100000001, 0b0001001101111111),
    (0b0001001110000000, 0b0001001111111111),
    # bits 10 to 15 are 000101, 000110, 000111
    (0b0001010000000000, 0b0001011111111111),
    (0b0001100000000000, 0b0001101111111111),
    (0b0001110000000000, 0b0001111111111111),
]


def is_none(word):
    return any(row[0] <= word <= row[1] for row in NO_INSTRUCTIONS)


def done_and_pc(chosen):
    """For each word whether it is done at START, and the PC behind it."""
    found = []
    for k in range(0, len(chosen), 70):
        calls = []
        for word in chosen[k:k + 70]:
            calls += [load(START, words(word)), put(PC, START), put(2, 0), run(1), get(PC)]
        answers = asked(*calls)
        for place in range(0, len(answers), 5):
            found.append((answers[place + 3][0], answers[place + 4][0]))
    return found


class NoInstructionsTest(ProgramTest):
    def test_how_many_there_are(self):
        # 57344 from 0010000000000000 on; k 0, 2, 4 with 128 words each; k 1, 3, 5 with 64 each; one of k 6.
        self.assertEqual(65536 - sum(last - first + 1 for first, last in NO_INSTRUCTIONS), 57344 + 3 * 128 + 3 * 64 + 1)

    def test_none_is_done_and_pc_stays(self):
        chosen = [word for word in range(65536) if is_none(word)]
        found = done_and_pc(chosen)
        self.assertEqual([word for word, pair in zip(chosen, found) if pair != (0, START)], [])

    def test_every_other_word_is_done(self):
        chosen = [word for word in range(65536) if not is_none(word)]
        found = done_and_pc(chosen)
        self.assertEqual([word for word, pair in zip(chosen, found) if pair[0] != 1], [])

    def test_nothing_of_such_a_word_is_done(self):
        registers = {which: 20000 + 2 * which for which in ASKED}
        registers[2] = 256 + 8 + 1
        memory = {20008: [1, 2, 3, 4], START + 2: [10, 0]}
        chosen = [0, 0x0FFF, 0x1301, 0x1310, 0x1340, 0x137F, 0x1380, 0x1384, 0x13B4, 0x13FF,
                  0x1400, 0x1434, 0x17FF, 0x1800, 0x1BFF, 0x1C00, 0x1FFF]
        for word in (0x10C0, 0x11C0, 0x12C0):
            # With R0, R1, R2, R3 and R4, by each way.
            chosen += [word + 16 * way + which for way in range(4) for which in range(5)]
        for word in chosen:
            with self.subTest(word=word):
                self.check([word], registers, memory, {PC: START}, {}, n=3, done=0)


if __name__ == "__main__":
    unittest.main()
