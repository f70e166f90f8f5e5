"""How many books there are of a pattern, and of a size and a rank."""

from throwshelves.bridges import bridge_count
from throwshelves.countsteps import count_step, exchanged, turned_by
from throwshelves.demands import demand
from throwshelves.insertions import taken_out
from throwshelves.kinds import is_number, is_prime, is_size
from throwshelves.polynomials import parted, value_at
from throwshelves.swaps import swap_at


def count_polynomial(pattern):
    """The polynomial whose value at each prime is how many books of it have the pattern."""
    word, at = count_step(pattern)
    if word == "one":
        return (1,)
    if word == "turned":
        return count_polynomial(turned_by(pattern, at))
    if word == "both":
        other = exchanged(pattern, at)
        second = () if other is None else count_polynomial(other)
        return parted(count_polynomial(swap_at(pattern, at, at + 1)), second)
    return count_polynomial(taken_out(pattern, at))


def book_count(pattern, prime):
    """How many books of the prime have the pattern."""
    demand(is_prime(prime), "prime")
    return value_at(count_polynomial(pattern), prime)


def power_of(base, many):
    """The base so many times multiplied."""
    power = 1
    for _ in range(many):
        power = power * base
    return power


def least_count(pattern, prime):
    """How many books plan_books gives of each plan of the pattern."""
    demand(is_prime(prime), "prime")
    return power_of(prime - 1, bridge_count(pattern))


def demand_order(size, rank, prime):
    """Refuses what is no size, no number up to it, and no prime."""
    demand(is_size(size), "size")
    demand(is_number(rank) and rank <= size, "rank")
    demand(is_prime(prime), "prime")


def total_count(size, rank, prime):
    """How many books there are of this size, rank and prime."""
    demand_order(size, rank, prime)
    # A book of a place more has the word with 1 there alone, and a book of a rank less besides; or it has one of its
    # own rank, with any digit there for each row.
    counts = [1] + [0 for _ in range(rank)]
    for _ in range(size):
        counts = [1] + [counts[k - 1] + power_of(prime, k) * counts[k] for k in range(1, rank + 1)]
    return counts[rank]
