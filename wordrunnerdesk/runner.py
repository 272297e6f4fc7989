"""Running instructions, and interrupts."""

from wordrunnerdesk.jumps import do_jump
from wordrunnerdesk.one_operand import RETURN_WORD, do_one, do_return, has_one_operand
from wordrunnerdesk.processor import PC, REFUSED, SR
from wordrunnerdesk.status import ALLOWED, STOPPED
from wordrunnerdesk.two_operands import do_two

MOST_INSTRUCTIONS = 1000000

# The first words of those with one operand, of the jumps and of those with two operands,
# and the first word behind those with one operand.
ONE_OPERAND = 4096
BEHIND_ONE_OPERAND = 5120
JUMPS = 8192
TWO_OPERANDS = 16384

FIRST_VECTOR = 65472
LAST_VECTOR = 65535

NOT_ALLOWED = 0
INTERRUPTED = 1


def is_instruction(word):
    """Whether a word is an instruction."""
    if word >= JUMPS:
        return True
    return ONE_OPERAND <= word < BEHIND_ONE_OPERAND and has_one_operand(word)


def do_instruction(processor, word):
    """Do the instruction whose word was taken."""
    if word >= TWO_OPERANDS:
        do_two(processor, word)
    elif word >= JUMPS:
        do_jump(processor, word)
    elif word == RETURN_WORD:
        do_return(processor)
    else:
        do_one(processor, word)


def goes_on(processor):
    """Do the instruction at PC, unless the processor is stopped or there is none; whether one was done."""
    if processor.registers[SR] & STOPPED:
        return False
    # PC must stay at a word that is no instruction, so the word is looked at before it is taken.
    at = processor.registers[PC]
    word = processor.word_at(at)
    if not is_instruction(word):
        return False
    processor.keep(PC, at + 2)
    do_instruction(processor, word)
    return True


def run(processor, n):
    """Do up to n instructions; how many were done, or the refusal."""
    if n < 0 or n > MOST_INSTRUCTIONS:
        return REFUSED
    done = 0
    while done < n and goes_on(processor):
        done += 1
    return done


def interrupt(processor, vector):
    """Begin the interrupt of a vector, if it is allowed, or refuse."""
    if vector % 2 != 0 or vector < FIRST_VECTOR or vector > LAST_VECTOR:
        return REFUSED
    if processor.registers[SR] & ALLOWED == 0:
        return NOT_ALLOWED
    processor.push(processor.registers[PC])
    processor.push(processor.registers[SR])
    processor.keep(SR, 0)
    processor.keep(PC, processor.word_at(vector))
    return INTERRUPTED
