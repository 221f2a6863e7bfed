"""Operations that look at their operands alone."""

from storymachine.faults import QuotientFault
from storymachine.memory import signed


def is_zero(operands):
    return operands[0] == 0


def opposite(operands):
    return 65535 - operands[0]


def is_among(operands):
    return operands[0] in operands[1:]


def is_less(operands):
    return signed(operands[0]) < signed(operands[1])


def is_more(operands):
    return signed(operands[0]) > signed(operands[1])


def has_bits(operands):
    return operands[0] & operands[1] == operands[1]


def either_bits(operands):
    return operands[0] | operands[1]


def both_bits(operands):
    return operands[0] & operands[1]


def plus(operands):
    return (operands[0] + operands[1]) % 65536


def minus(operands):
    return (operands[0] - operands[1]) % 65536


def times(operands):
    return operands[0] * operands[1] % 65536


# Python's // rounds down, the document's quotient goes towards 0.
def signed_quotient(operands):
    a = signed(operands[0])
    b = signed(operands[1])
    if b == 0:
        raise QuotientFault()
    size = abs(a) // abs(b)
    return size if (a < 0) == (b < 0) else -size


def quotient(operands):
    return signed_quotient(operands) % 65536


def rest(operands):
    return (signed(operands[0]) - signed(operands[1]) * signed_quotient(operands)) % 65536


SUMS = {
    100: is_zero, 115: opposite, 201: is_among, 202: is_less, 203: is_more, 207: has_bits,
    208: either_bits, 209: both_bits, 220: plus, 221: minus, 222: times, 223: quotient, 224: rest,
}


def find_sum(code):
    return SUMS.get(code)
