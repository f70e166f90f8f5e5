"""The checker of tables of ranks."""

from throwshelves.demands import accept
from throwshelves.errors import InvalidPaper
from throwshelves.kinds import is_integer


def is_table(thing):
    """Whether any value is a table, whether it holds or not."""
    if not isinstance(thing, tuple) or not thing:
        return False
    if not all([isinstance(ranks, tuple) and len(ranks) == len(thing) + 1 for ranks in thing]):
        return False
    return all([is_integer(rank) for ranks in thing for rank in ranks])


def end_fault(table):
    """What bars the integers for length 0, and for the size as length: a word and an at; or None."""
    for start, ranks in enumerate(table):
        if ranks[0] != 0:
            return ("nought", start)
    for start, ranks in enumerate(table):
        if ranks[len(table)] != table[0][len(table)]:
            return ("whole", start)
    return None


def jumps_at(table, start, length):
    """Whether the integer is neither that for a length less nor 1 more."""
    less = table[start][length - 1]
    return table[start][length] not in (less, less + 1)


def is_too_much(table, start, length):
    """Whether the stretch and that without both its ends come to more than those that lack just one of them."""
    ranks = table[start]
    behind = table[(start + 1) % len(table)]
    return ranks[length] + behind[length - 2] > ranks[length - 1] + behind[length - 1]


def table_fault(table):
    """What bars the table from holding, as the checker tells it: a word and an at; or None."""
    fault = end_fault(table)
    if fault is not None:
        return fault
    for start in range(len(table)):
        for length in range(1, len(table) + 1):
            if jumps_at(table, start, length):
                return ("ahead", (start, length))
            if length > 1 and is_too_much(table, start, length):
                return ("square", (start, length))
    return None


def lets_table(thing):
    """The balls of any value that is a table that holds; InvalidPaper for the first thing that bars it."""
    if not is_table(thing):
        raise InvalidPaper("shape", -1)
    accept(table_fault(thing))
    return thing[0][len(thing)]
