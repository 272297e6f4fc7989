"""An instruction's operands: where they are, what they are, and keeping a result there.

Where an operand is, is a tuple: IN_REGISTER and which one, IN_MEMORY and the place, or PLAIN_NUMBER and the
number itself. q is 65536, or 256 of an instruction on bytes.
"""

from wordrunnerdesk.processor import SP, SR, ZERO

IN_REGISTER = 0
IN_MEMORY = 1
PLAIN_NUMBER = 2

WORDS = 65536
BYTES = 256
ON_BYTES = 64


def numbers_below(word):
    """The q of an instruction's word."""
    return BYTES if word & ON_BYTES else WORDS


def free_number(which, way, q):
    """The number that R2 or R3 stands for by this way, or None where a register or memory is meant."""
    if which == ZERO:
        return q - 1 if way == 3 else way
    if which == SR and way == 2:
        return 4
    if which == SR and way == 3:
        return 8
    return None


def beyond_register(processor, which):
    """The place that a register and the next word tell together."""
    # The register comes first: it may be PC, which the next word moves.
    base = 0 if which == SR else processor.registers[which]
    return (base + processor.next_word()) % WORDS


def step_of(which, q):
    """By how much a register goes on behind what it has shown."""
    # PC and SP stay even, so they go on by a whole word always.
    return 1 if q == BYTES and which > SP else 2


def first_operand(processor, which, way, q):
    """Where a first operand is."""
    number = free_number(which, way, q)
    if number is not None:
        return (PLAIN_NUMBER, number)
    if way == 0:
        return (IN_REGISTER, which)
    if way == 1:
        return (IN_MEMORY, beyond_register(processor, which))
    at = processor.registers[which]
    if way == 3:
        processor.keep(which, at + step_of(which, q))
    return (IN_MEMORY, at)


def second_operand(processor, which, way):
    """Where a second operand is."""
    if way == 0:
        return (IN_REGISTER, which)
    return (IN_MEMORY, beyond_register(processor, which))


def value_of(processor, operand, q):
    """What an operand is."""
    if operand[0] == IN_REGISTER:
        return processor.registers[operand[1]] % q
    if operand[0] == PLAIN_NUMBER:
        return operand[1]
    if q == BYTES:
        return processor.memory[operand[1]]
    return processor.word_at(operand[1])


def keep_result(processor, operand, result, q):
    """Keep a result, which is below q, where an operand is; a number keeps nothing."""
    if operand[0] == IN_REGISTER:
        processor.keep(operand[1], result)
    elif operand[0] == IN_MEMORY and q == BYTES:
        processor.memory[operand[1]] = result
    elif operand[0] == IN_MEMORY:
        processor.keep_word(operand[1], result)
