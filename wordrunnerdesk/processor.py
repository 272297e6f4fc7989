"""The processor itself: its registers, its memory and its stack."""

MEMORY_SIZE = 65536

DONE = 0
REFUSED = -1

PC = 0
SP = 1
SR = 2
# R3 is always 0, so it can't be set.
ZERO = 3

# Which bits each one of R0 to R15 keeps: PC and SP stay even, SR has nine bits, R3 has none.
KEPT_BITS = (
    65534, 65534, 511, 0,
    65535, 65535, 65535, 65535,
    65535, 65535, 65535, 65535,
    65535, 65535, 65535, 65535,
)

# A place modulo 65536 without its lowest bit, which isn't looked at where a word lies.
WORD_PLACE = 65534


def in_memory(at, n):
    """Whether n bytes from at on lie in memory."""
    return n >= 0 and at >= 0 and at + n <= MEMORY_SIZE


def can_be_asked(which):
    """Whether which names one of R0 to R15 that may be set and asked."""
    return 0 <= which < len(KEPT_BITS) and which != ZERO


class Processor:
    """Sixteen registers and 65536 bytes."""

    def __init__(self):
        self.wipe()

    def wipe(self):
        """All registers and memory become 0."""
        self.registers = [0] * len(KEPT_BITS)
        self.memory = [0] * MEMORY_SIZE
        return DONE

    def load(self, at, row):
        """Bring the row's bytes into memory from at on, or refuse."""
        if not in_memory(at, len(row)):
            return REFUSED
        for offset, byte in enumerate(row):
            self.memory[at + offset] = byte
        return DONE

    def look(self, at, n):
        """A list: 0 and then the n bytes from at on, or the refusal alone."""
        if not in_memory(at, n):
            return [REFUSED]
        return [DONE] + self.memory[at:at + n]

    def keep(self, which, value):
        """Give R0 to R15 a value, as it is kept there."""
        # The bits of a number below 0 go on without end, so this is the value modulo 65536 as well.
        self.registers[which] = value & KEPT_BITS[which]

    def put(self, which, value):
        """Set one of R0 to R15, or refuse."""
        if not can_be_asked(which):
            return REFUSED
        self.keep(which, value)
        return DONE

    def held(self, which):
        """What one of R0 to R15 is, or the refusal."""
        if not can_be_asked(which):
            return REFUSED
        return self.registers[which]

    def word_at(self, at):
        """The word in memory at a place."""
        lower = at & WORD_PLACE
        return self.memory[lower] + 256 * self.memory[lower + 1]

    def keep_word(self, at, word):
        """Bring a word into memory at a place."""
        lower = at & WORD_PLACE
        self.memory[lower] = word & 255
        self.memory[lower + 1] = word >> 8

    def next_word(self):
        """The word at PC, which then goes on behind it."""
        word = self.word_at(self.registers[PC])
        self.keep(PC, self.registers[PC] + 2)
        return word

    def push(self, word):
        """Bring a word onto the stack."""
        self.keep(SP, self.registers[SP] - 2)
        self.keep_word(self.registers[SP], word)

    def pull(self):
        """Take a word from the stack."""
        word = self.word_at(self.registers[SP])
        self.keep(SP, self.registers[SP] + 2)
        return word
