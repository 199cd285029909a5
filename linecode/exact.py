"""Exact fractions: pairs of a numerator and a denominator from 1 on, in lowest terms.

Values grow to thousands of bits, and finding common divisors is nearly all of the
time that reckoning takes. So each operation looks for them in the smallest numbers
that can hold any, which the operands' being in lowest terms allows.
"""


def common_divisor(a, b):
    """The largest number that divides both; b is 1 or more."""
    while b:
        rest = a % b
        a = b
        b = rest
    return a


def lowest(above, below):
    """The fraction of this value; below is 1 or more."""
    divisor = common_divisor(above, below)
    return (above // divisor, below // divisor)


def weight(a):
    """The bits of the numerator without sign and of the denominator, added."""
    return abs(a[0]).bit_length() + a[1].bit_length()


def opposite(a):
    """-a."""
    return (-a[0], a[1])


def plus(a, b):
    """a + b."""
    divisor = common_divisor(a[1], b[1])
    part = a[1] // divisor
    above = a[0] * (b[1] // divisor) + b[0] * part
    # What divides both above and the common denominator divides the divisor too.
    again = common_divisor(above, divisor)
    return (above // again, part * (b[1] // again))


def minus(a, b):
    """a - b."""
    return plus(a, opposite(b))


def times(a, b):
    """a * b."""
    first = common_divisor(a[0], b[1])
    second = common_divisor(b[0], a[1])
    return ((a[0] // first) * (b[0] // second), (a[1] // second) * (b[1] // first))


def over(a, b):
    """a / b, where b isn't 0."""
    if b[0] < 0:
        return times(a, (-b[1], -b[0]))
    return times(a, (b[1], b[0]))
