"""Polynomials with integers, as tuples from the constant on, the last one not 0."""


def parted(first, second):
    """The first one times the prime less 1, and the second one times the prime, added; () stands for 0."""
    ups = (0,) + first
    downs = first + (0,)
    more = (0,) + second + tuple([0 for _ in range(len(first) - len(second))])
    return tuple([up - down + one for up, down, one in zip(ups, downs, more)])


def value_at(polynomial, x):
    """The value of the polynomial at the integer."""
    value = 0
    for one in polynomial[::-1]:
        value = value * x + one
    return value
