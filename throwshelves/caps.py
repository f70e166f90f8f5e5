"""Caps of ranks: which ranks they let, and patterns, lots of places and books that keep them."""

from throwshelves.capways import is_caps, lot_or_way
from throwshelves.demands import demand
from throwshelves.errors import Barred
from throwshelves.kinds import is_number, is_prime, is_size
from throwshelves.ranktables import rank_in


def demand_caps(size, caps):
    """Refuses what is no size, and what is no caps of it."""
    demand(is_size(size), "size")
    demand(is_caps(size, caps), "caps")


def demand_lot(size, caps, rank):
    """Refuses what is no size, no caps of it, and no number up to it."""
    demand_caps(size, caps)
    demand(is_number(rank) and rank <= size, "rank")


def most_rank(size, caps):
    """The greatest rank of a book of the size whose stretches keep the caps."""
    demand_caps(size, caps)
    # Books that keep caps have just the ranks of the lots that do.
    return max([rank for rank in range(size + 1) if lot_or_way(size, caps, rank)[0] == "lot"])


def keeps_caps(pattern, caps):
    """Whether the stretches of the pattern keep the caps."""
    demand(is_caps(len(pattern), caps), "caps")
    return all([rank_in(pattern, start, length) <= number for (start, length), number in caps])


def lot_let(size, caps, rank):
    """A set of so many places of which no stretch has more than its cap; Barred, if there is none."""
    word, told = lot_or_way(size, caps, rank)
    if word == "way":
        raise Barred(("way", told))
    return told


def lot_under(size, caps, rank):
    """A set of so many places of which no stretch has more than its cap."""
    demand_lot(size, caps, rank)
    return lot_let(size, caps, rank)


def book_under(size, caps, rank, prime):
    """A book of the prime and the rank that keeps the caps."""
    demand_lot(size, caps, rank)
    demand(is_prime(prime), "prime")
    lot = lot_let(size, caps, rank)
    return (prime, size, tuple([tuple([1 if at == place else 0 for at in range(size)]) for place in lot]))
