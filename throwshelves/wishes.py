"""Wishes for throws within bounds: patterns and books that keep them."""

from throwshelves.bridges import book_of
from throwshelves.demands import demand
from throwshelves.errors import Barred
from throwshelves.kinds import is_number, is_prime
from throwshelves.wishbounds import bar_of, first_crowd, is_between, is_bounds, leasts_over, mosts_over, pattern_let


def balls_let(bounds):
    """The fewest and the most balls that a pattern within the bounds has; None, if there is no such pattern."""
    demand(is_bounds(bounds), "bounds")
    fewest = max(leasts_over(bounds))
    most = min(mosts_over(bounds))
    if fewest > most or first_crowd(bounds) is not None:
        return None
    return (fewest, most)


def is_within(pattern, bounds):
    """Whether the pattern is within the bounds."""
    demand(is_bounds(bounds), "bounds")
    return is_between(pattern, bounds)


def demand_wish(bounds, balls):
    """Refuses what is no bounds, and what is no number of balls up to their size."""
    demand(is_bounds(bounds), "bounds")
    demand(is_number(balls) and balls <= len(bounds), "balls")


def wished_pattern(bounds, balls):
    """A pattern within the bounds with so many balls; Barred, if there is none."""
    bar = bar_of(bounds, balls)
    if bar is not None:
        raise Barred(bar)
    return pattern_let(bounds, balls)


def pattern_within(bounds, balls):
    """A pattern within the bounds with so many balls."""
    demand_wish(bounds, balls)
    return wished_pattern(bounds, balls)


def book_within(bounds, balls, prime):
    """A book of the prime whose pattern is within the bounds and has so many balls."""
    demand_wish(bounds, balls)
    demand(is_prime(prime), "prime")
    return book_of(wished_pattern(bounds, balls), prime)
