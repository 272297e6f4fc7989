"""The processor itself: its registers and its memory."""

MEMORY_SIZE = 65536

DONE = 0
REFUSED = -1

# R3 is always 0, so it can't be set.
ZERO = 3

# Which bits each one of R0 to R15 keeps: PC and SP stay even, SR has nine bits, R3 has none.
KEPT_BITS = (
    65534, 65534, 511, 0,
    65535, 65535, 65535, 65535,
    65535, 65535, 65535, 65535,
    65535, 65535, 65535, 65535,
)


def in_memory(at, n):
    """Whether n bytes from at on lie in memory."""
    return n >= 0 and at >= 0 and at + n <= MEMORY_SIZE


def can_be_set(which):
    """Whether which names one of R0 to R15 that may be set."""
    return 0 <= which < len(KEPT_BITS) and which != ZERO


class Processor:
    """Sixteen registers and 65536 bytes."""

    def __init__(self):
        self.wipe()

    def wipe(self):
        """All registers and memory become 0."""
        self.registers = [0] * len(KEPT_BITS)
        self.memory = [0] * MEMORY_SIZE
        return DONE

    def load(self, at, row):
        """Bring the row's bytes into memory from at on, or refuse."""
        if not in_memory(at, len(row)):
            return REFUSED
        for offset, byte in enumerate(row):
            self.memory[at + offset] = byte
        return DONE

    def look(self, at, n):
        """A list: 0 and then the n bytes from at on, or the refusal alone."""
        if not in_memory(at, n):
            return [REFUSED]
        return [DONE] + self.memory[at:at + n]

    def keep(self, which, value):
        """Give R0 to R15 a value, as it is kept there."""
        # The bits of a number below 0 go on without end, so this is the value modulo 65536 as well.
        self.registers[which] = value & KEPT_BITS[which]

    def put(self, which, value):
        """Set one of R0 to R15, or refuse."""
        if not can_be_set(which):
            return REFUSED
        self.keep(which, value)
        return DONE
