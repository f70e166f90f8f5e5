"""Books of patterns, made shelf by shelf, with bridges from shelf to shelf."""

from throwshelves.books import counted_on
from throwshelves.columnputs import with_nought, with_unit
from throwshelves.columns import columns_of, from_columns
from throwshelves.deeds import bridges_in, is_plan, last_deed, throws_ahead, throws_by
from throwshelves.demands import demand
from throwshelves.kinds import are_factors, is_digit, is_place, is_prime
from throwshelves.patterns import balls_of
from throwshelves.swaps import depth_of


def bridged(book, place, digit):
    """The book in which the column of the next place gets digit times that of the place added."""
    prime, size, _ = book
    demand(size > 1 and is_place(size, place), "place")
    demand(is_digit(prime, digit), "digit")
    return from_columns(prime, tuple(with_bridge(prime, columns_of(book), place, digit)))


def with_bridge(prime, columns, place, digit):
    """The columns when that of the next place gets digit times that of the place added."""
    other = (place + 1) % len(columns)
    changed = list(columns)
    changed[other] = tuple([(one + digit * two) % prime for one, two in zip(columns[other], columns[place])])
    return changed


def bridge_count(pattern):
    """How many bridges each plan of the pattern has."""
    balls = balls_of(pattern)
    return balls * (len(pattern) - balls) - depth_of(pattern)


def bridge_plan(pattern):
    """A plan of the pattern."""
    deeds = []
    while len(pattern) > 0:
        deed = last_deed(pattern)
        deeds.append(deed)
        pattern = throws_ahead(pattern, deed)
    return tuple(deeds[::-1])


def plan_pattern(plan):
    """The pattern of the plan."""
    demand(is_plan(plan), "plan")
    return throws_by(plan)


def plan_book(plan, prime, digits):
    """The book that the plan makes, each bridge with its digit."""
    demand(is_plan(plan), "plan")
    demand(is_prime(prime), "prime")
    demand(are_factors(prime, bridges_in(plan), digits), "digits")
    return book_made(plan, prime, digits)


def book_made(plan, prime, digits):
    """The book that what is certainly a plan makes, each bridge with its digit."""
    columns = []
    done = 0
    for word, place in plan:
        if word == "bridge":
            columns = with_bridge(prime, columns, place, digits[done])
            done = done + 1
        elif word == "rest":
            columns = with_nought(columns, place)
        else:
            columns = with_unit(columns, place)
    return from_columns(prime, tuple(columns))


def plan_books(plan, prime):
    """Yields the books that the plan makes, for all digits of its bridges in ascending order."""
    demand(is_plan(plan), "plan")
    demand(is_prime(prime), "prime")
    count = [0 for _ in range(bridges_in(plan))]
    while count is not None:
        yield book_made(plan, prime, [one + 1 for one in count])
        count = counted_on(prime - 1, count)


def book_of(pattern, prime):
    """A book of the prime with this pattern."""
    demand(is_prime(prime), "prime")
    plan = bridge_plan(pattern)
    return book_made(plan, prime, [1 for _ in range(bridges_in(plan))])
