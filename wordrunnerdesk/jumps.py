"""The jumps."""

from wordrunnerdesk.processor import PC, SR
from wordrunnerdesk.status import CARRY, NEGATIVE, OVERFLOW, ZERO_RESULT


def differ(status):
    """Whether one of N and V is set and the other one isn't."""
    return (status & NEGATIVE != 0) != (status & OVERFLOW != 0)


def is_taken(k, status):
    """Whether the jump of this k is taken."""
    if k == 0:
        return status & ZERO_RESULT == 0
    if k == 1:
        return status & ZERO_RESULT != 0
    if k == 2:
        return status & CARRY == 0
    if k == 3:
        return status & CARRY != 0
    if k == 4:
        return status & NEGATIVE != 0
    if k == 5:
        return not differ(status)
    if k == 6:
        return differ(status)
    return True


def words_on(word):
    """By how many words the jump goes on; below 0: back."""
    number = word % 1024
    return number - 1024 if number >= 512 else number


def do_jump(processor, word):
    """Do the jump whose word was taken."""
    if is_taken(word >> 10 & 7, processor.registers[SR]):
        processor.keep(PC, processor.registers[PC] + 2 * words_on(word))
