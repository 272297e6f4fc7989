"""The jumps."""

import unittest

from tests.helper import PC, SR, START, ProgramTest, asked, flags, get, jump, load, put, run, words

EACH_STATUS = ["", "C", "Z", "CZ", "N", "NC", "NZ", "NCZ", "V", "VC", "VZ", "VCZ", "NV", "NVC", "NVZ", "NVCZ"]
# By k: with which letters the jump is taken.
TAKEN = [
    ["", "C", "N", "NC", "V", "VC", "NV", "NVC"],
    ["Z", "CZ", "NZ", "NCZ", "VZ", "VCZ", "NVZ", "NVCZ"],
    ["", "Z", "N", "NZ", "V", "VZ", "NV", "NVZ"],
    ["C", "CZ", "NC", "NCZ", "VC", "VCZ", "NVC", "NVCZ"],
    ["N", "NC", "NZ", "NCZ", "NV", "NVC", "NVZ", "NVCZ"],
    ["", "C", "Z", "CZ", "NV", "NVC", "NVZ", "NVCZ"],
    ["N", "NC", "NZ", "NCZ", "V", "VC", "VZ", "VCZ"],
    EACH_STATUS,
]
ALWAYS = 7
DISTANCES = [0, 1, 2, 100, 510, 511, -1, -2, -100, -256, -511, -512]


class JumpTest(ProgramTest):
    def behind(self, at, word, status):
        """PC and SR behind one jump at a place."""
        found = asked(load(at, words(word)), put(PC, at), put(SR, status), run(1), get(PC), get(SR))
        self.assertEqual(found[3], [1])
        return found[4][0], found[5][0]

    def test_every_jump_taken_and_not_taken(self):
        for k, taken in enumerate(TAKEN):
            for letters in EACH_STATUS:
                # The other bits of SR don't matter.
                for status in (flags(letters), flags(letters) | 232):
                    for distance in (5, -5):
                        with self.subTest(k=k, letters=letters, distance=distance):
                            goal = 8194 + 2 * distance if letters in taken else 8194
                            self.assertEqual(self.behind(8192, jump(k, distance), status), (goal, status))

    def test_every_jump_with_every_distance(self):
        for k, taken in enumerate(TAKEN):
            for distance in DISTANCES:
                goal = 8194 + 2 * distance
                self.assertEqual(self.behind(8192, jump(k, distance), flags(taken[0])), (goal, flags(taken[0])))

    def test_the_ends_of_a_distance(self):
        self.assertEqual(self.behind(8192, 0b0011110111111111, 0)[0], 8194 + 1022)
        self.assertEqual(self.behind(8192, 0b0011111000000000, 0)[0], 8194 - 1024)
        self.assertEqual(self.behind(8192, 0b0011111111111111, 0)[0], 8192)
        self.assertEqual(self.behind(8192, 0b0011110000000000, 0)[0], 8194)

    def test_past_65535(self):
        self.assertEqual(self.behind(65534, jump(ALWAYS, 0), 0)[0], 0)
        self.assertEqual(self.behind(65534, jump(ALWAYS, 5), 0)[0], 10)
        self.assertEqual(self.behind(65532, jump(ALWAYS, 1), 0)[0], 0)
        self.assertEqual(self.behind(65000, jump(ALWAYS, 511), 0)[0], 488)
        self.assertEqual(self.behind(65534, jump(1, 5), 0)[0], 0)

    def test_below_0(self):
        self.assertEqual(self.behind(0, jump(ALWAYS, -1), 0)[0], 0)
        self.assertEqual(self.behind(0, jump(ALWAYS, -2), 0)[0], 65534)
        self.assertEqual(self.behind(0, jump(ALWAYS, -512), 0)[0], 64514)
        self.assertEqual(self.behind(65534, jump(ALWAYS, -1), 0)[0], 65534)

    def test_nothing_else_changes(self):
        registers = {which: 1000 + which for which in range(4, 16)}
        registers[1] = 3000
        for k, taken in enumerate(TAKEN):
            for letters in EACH_STATUS:
                registers[SR] = flags(letters)
                goal = START + 22 if letters in taken else START + 2
                self.check([jump(k, 10)], registers, {START + 4: [1, 2, 3]}, {PC: goal}, {})


if __name__ == "__main__":
    unittest.main()
