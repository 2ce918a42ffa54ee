"""What the instructions of one and of two operands give.

Each function answers the result, V and C; N and Z follow from the result. top is the value of the highest
bit, of words or of bytes, so all bits together are top * 2 - 1; carry is C as it was.
"""


def signed(value, top):
    return value - top * 2 if value & top else value


def sum_of(s, d, top):
    whole = s + d
    result = whole % (top * 2)
    overflow = 1 if (s ^ result) & (d ^ result) & top else 0
    return (result, overflow, 1 if whole >= top * 2 else 0)


def difference_of(a, b, top):
    # a's sign is neither b's nor the difference's: just then a and b differ and the difference is as b.
    result = (a - b) % (top * 2)
    overflow = 1 if (a ^ b) & (a ^ result) & top else 0
    return (result, overflow, 1 if a < b else 0)


def mov(s, d, carry, top):
    return (s, 0, carry)


def cmp(s, d, carry, top):
    return difference_of(s, d, top)


def bit(s, d, carry, top):
    return (s & d, 0, carry)


def bic(s, d, carry, top):
    return (d & ~s, 0, carry)


def bis(s, d, carry, top):
    return (d | s, 0, carry)


def add(s, d, carry, top):
    return sum_of(s, d, top)


def sub(s, d, carry, top):
    return difference_of(d, s, top)


# By w's bits 12 to 15.
TWO_OPERANDS = {
    0o01: mov, 0o02: cmp, 0o03: bit, 0o04: bic, 0o05: bis, 0o06: add,
    0o11: mov, 0o12: cmp, 0o13: bit, 0o14: bic, 0o15: bis, 0o16: sub,
}


def clr(d, carry, top):
    return (0, 0, 0)


def com(d, carry, top):
    return (top * 2 - 1 - d, 0, 1)


def inc(d, carry, top):
    return ((d + 1) % (top * 2), 1 if d == top - 1 else 0, carry)


def dec(d, carry, top):
    return ((d - 1) % (top * 2), 1 if d == top else 0, carry)


def neg(d, carry, top):
    result = -d % (top * 2)
    return (result, 1 if result == top else 0, 1 if result != 0 else 0)


def adc(d, carry, top):
    return sum_of(carry, d, top)


def sbc(d, carry, top):
    return difference_of(d, carry, top)


def tst(d, carry, top):
    return (d, 0, 0)


def turned(result, out, top):
    negative = 1 if result & top else 0
    return (result, negative ^ out, out)


def ror(d, carry, top):
    return turned((d >> 1) + carry * top, d & 1, top)


def rol(d, carry, top):
    return turned(d * 2 % (top * 2) + carry, 1 if d & top else 0, top)


def asr(d, carry, top):
    return turned((d >> 1) + (d & top), d & 1, top)


def asl(d, carry, top):
    return turned(d * 2 % (top * 2), 1 if d & top else 0, top)


# By w's bits 6 to 14: the highest bit only says whether it's on bytes.
ONE_OPERAND = {
    0o050: clr, 0o051: com, 0o052: inc, 0o053: dec, 0o054: neg, 0o055: adc, 0o056: sbc, 0o057: tst,
    0o060: ror, 0o061: rol, 0o062: asr, 0o063: asl,
}


def moved(value, by, top):
    # ASH and ASHC: to the left by this many bits, below 0 to the right.
    number = signed(value, top)
    if by < 0:
        return ((number >> -by) % (top * 2), 0, (number >> (-by - 1)) & 1)
    result = (value << by) % (top * 2)
    overflow = 1 if signed(result, top) != number << by else 0
    return (result, overflow, 1 if (value << by) & (top * 2) else 0)


def divided(number, by):
    # Towards 0: the rest has the sign of the number that's divided.
    quotient = abs(number) // abs(by)
    if (number < 0) != (by < 0):
        quotient = -quotient
    return (quotient, number - quotient * by)
