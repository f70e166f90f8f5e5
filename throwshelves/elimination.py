"""Elimination modulo a prime. Rows are tuples of digits; no function changes what it is passed."""


def lead_of(word):
    """The first place whose digit is not 0; the length of the word, if there is none."""
    for place, digit in enumerate(word):
        if digit != 0:
            return place
    return len(word)


def inverse_of(prime, digit):
    """The digit that comes with this one, which is not 0, to 1."""
    for other in range(1, prime):
        if digit * other % prime == 1:
            return other
    return None


def times(prime, digit, word):
    """The word multiplied by the digit."""
    return tuple([digit * one % prime for one in word])


def taken_off(prime, word, digit, row):
    """The word less digit times the row."""
    return tuple([(one - digit * other) % prime for one, other in zip(word, row)])


def rest_of(prime, rows, word):
    """The word less the multiples of settled rows by which it is 0 at their leads."""
    for row in rows:
        word = taken_off(prime, word, word[lead_of(row)], row)
    return word


def is_sum(prime, rows, word):
    """Whether the word is a sum of multiples of settled rows."""
    return lead_of(rest_of(prime, rows, word)) == len(word)


def rows_with(prime, rows, word):
    """The settled rows whose sums are those of the settled rows and of the word."""
    rest = rest_of(prime, rows, word)
    at = lead_of(rest)
    if at == len(rest):
        return list(rows)
    row = times(prime, inverse_of(prime, rest[at]), rest)
    cleared = [taken_off(prime, other, other[at], row) for other in rows]
    ahead = [other for other in cleared if lead_of(other) < at]
    behind = [other for other in cleared if lead_of(other) > at]
    return ahead + [row] + behind


def settled_rows(prime, words):
    """The rows in settled form whose sums are those of the words."""
    rows = []
    for word in words:
        rows = rows_with(prime, rows, word)
    return tuple(rows)


def solution_of(prime, equations, many):
    """So many digits that solve the equations, each told as its digits and its sum behind them; None without any."""
    digits = [0 for _ in range(many)]
    for row in settled_rows(prime, equations):
        at = lead_of(row)
        if at == many:
            return None
        digits[at] = row[many]
    return tuple(digits)
