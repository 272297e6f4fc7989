"""The instructions with one operand, and the return from an interrupt.

What one of those with a result does with x comes to a tuple: the result, and the status with the flags that it sets.
"""

from wordrunnerdesk.operands import BYTES, ON_BYTES, first_operand, keep_result, numbers_below, value_of
from wordrunnerdesk.processor import PC, SP, SR
from wordrunnerdesk.status import CARRY, has_sign, with_flags

ROTATE = 0
SWAP_BYTES = 1
HALVE = 2
WIDEN_SIGN = 3
PUSH = 4
CALL = 5
RETURN = 6
NOTHING = 7

# 0001001100000000
RETURN_WORD = 4864


def kind_of(word):
    """Which of those with one operand a word is: its k."""
    return word >> 7 & 7


def has_one_operand(word):
    """Whether a word from 4096 to 5119 is an instruction."""
    k = kind_of(word)
    if k == SWAP_BYTES or k == WIDEN_SIGN or k == CALL:
        return word & ON_BYTES == 0
    if k == RETURN:
        return word == RETURN_WORD
    return k != NOTHING


def moved_right(x, top, status, q):
    """x by one bit to the right, with top above it."""
    result = x // 2 + top
    return (result, with_flags(status, result, q, x % 2 == 1, False))


def widened(x, status, q):
    """The lower byte of x with its sign."""
    result = x % BYTES
    if has_sign(result, BYTES):
        result += q - BYTES
    return (result, with_flags(status, result, q, result != 0, False))


def outcome_of_one(k, x, status, q):
    """The result and the status that an instruction comes to."""
    if k == ROTATE:
        return moved_right(x, q // 2 * (status & CARRY), status, q)
    if k == SWAP_BYTES:
        return (x % BYTES * BYTES + x // BYTES, status)
    if k == HALVE:
        return moved_right(x, q // 2 if has_sign(x, q) else 0, status, q)
    return widened(x, status, q)


def push_byte(processor, byte):
    """Make room for a word on the stack, but bring a byte alone there."""
    processor.keep(SP, processor.registers[SP] - 2)
    processor.memory[processor.registers[SP]] = byte


def do_return(processor):
    """Go back to where an interrupt came."""
    processor.keep(SR, processor.pull())
    processor.keep(PC, processor.pull())


def do_one(processor, word):
    """Do the instruction with one operand whose word was taken."""
    q = numbers_below(word)
    k = kind_of(word)
    operand = first_operand(processor, word & 15, word >> 4 & 3, q)
    x = value_of(processor, operand, q)
    if k == PUSH and q == BYTES:
        push_byte(processor, x)
    elif k == PUSH:
        processor.push(x)
    elif k == CALL:
        processor.push(processor.registers[PC])
        processor.keep(PC, x)
    else:
        outcome = outcome_of_one(k, x, processor.registers[SR], q)
        # The flags come first: where x is SR itself, the result takes their place.
        processor.keep(SR, outcome[1])
        keep_result(processor, operand, outcome[0], q)
