"""The instructions with two operands.

What one does with d and s comes to a tuple: the result, and the status with the flags that it sets.
"""

from wordrunnerdesk.operands import first_operand, keep_result, numbers_below, second_operand, value_of
from wordrunnerdesk.processor import SR
from wordrunnerdesk.status import CARRY, OVERFLOW, has_sign, with_flags

MOVE = 4
ADD = 5
ADD_WITH_CARRY = 6
SUBTRACT_WITH_CARRY = 7
COMPARE = 9
ADD_DECIMAL = 10
COMMON_BITS_TEST = 11
WITHOUT_BITS = 12
BITS_TOGETHER = 13
EXCLUSIVE_OR = 14


def added(d, s, more, status, q):
    """The sum of d, s and more."""
    total = d + s + more
    result = total % q
    sign = has_sign(d, q)
    overflow = sign == has_sign(s, q) and sign != has_sign(result, q)
    return (result, with_flags(status, result, q, total >= q, overflow))


def sum_of(what, d, s, status, q):
    """What those that add come to."""
    carry = status & CARRY
    if what == ADD:
        return added(d, s, 0, status, q)
    if what == ADD_WITH_CARRY:
        return added(d, s, carry, status, q)
    if what == SUBTRACT_WITH_CARRY:
        return added(d, q - 1 - s, carry, status, q)
    # What is left is 8, and COMPARE, which is the same but for what is kept.
    return added(d, q - 1 - s, 1, status, q)


def added_decimal(d, s, status, q):
    """The sum of d, s and C, digit by digit."""
    carry = status & CARRY
    result = 0
    weight = 1
    while weight < q:
        digit = d // weight % 16 + s // weight % 16 + carry
        carry = 0
        if digit >= 10:
            digit = (digit - 10) % 16
            carry = 1
        result += digit * weight
        weight *= 16
    return (result, with_flags(status, result, q, carry == 1, status & OVERFLOW != 0))


def common_bits(d, s, status, q):
    """The bits that d and s have in common."""
    result = d & s
    return (result, with_flags(status, result, q, result != 0, False))


def exclusive_or(d, s, status, q):
    """The bits that one of d and s has alone."""
    result = d ^ s
    overflow = has_sign(d, q) and has_sign(s, q)
    return (result, with_flags(status, result, q, result != 0, overflow))


def outcome_of_two(what, d, s, status, q):
    """The result and the status that an instruction comes to."""
    if what == MOVE:
        return (s, status)
    if what <= COMPARE:
        return sum_of(what, d, s, status, q)
    if what == ADD_DECIMAL:
        return added_decimal(d, s, status, q)
    if what == WITHOUT_BITS:
        return (d & (q - 1 - s), status)
    if what == BITS_TOGETHER:
        return (d | s, status)
    if what == EXCLUSIVE_OR:
        return exclusive_or(d, s, status, q)
    return common_bits(d, s, status, q)


def do_two(processor, word):
    """Do the instruction with two operands whose word was taken."""
    q = numbers_below(word)
    what = word >> 12
    first = first_operand(processor, word >> 8 & 15, word >> 4 & 3, q)
    s = value_of(processor, first, q)
    second = second_operand(processor, word & 15, word >> 7 & 1)
    d = value_of(processor, second, q)
    outcome = outcome_of_two(what, d, s, processor.registers[SR], q)
    # The flags come first: where the second is SR itself, the result takes their place.
    processor.keep(SR, outcome[1])
    if what != COMPARE and what != COMMON_BITS_TEST:
        keep_result(processor, second, outcome[0], q)
