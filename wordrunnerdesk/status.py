"""The bits of SR, the status."""

CARRY = 1
ZERO_RESULT = 2
NEGATIVE = 4
ALLOWED = 8
STOPPED = 16
OVERFLOW = 256

# All but C, Z, N and V.
OTHER_BITS = 248


def has_sign(number, q):
    """Whether a number below q has its sign set."""
    return number >= q // 2


def with_flags(status, result, q, carry, overflow):
    """The status with Z and N by the result, and with C and V as they are told."""
    flags = status & OTHER_BITS
    if carry:
        flags += CARRY
    if result == 0:
        flags += ZERO_RESULT
    if has_sign(result, q):
        flags += NEGATIVE
    if overflow:
        flags += OVERFLOW
    return flags
