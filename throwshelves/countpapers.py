"""Papers that show how many books have a pattern."""

from throwshelves.countsteps import count_step, exchanged, turned_by
from throwshelves.insertions import taken_out
from throwshelves.swaps import swap_at


def count_paper(pattern):
    """A count paper of the pattern."""
    word, at = count_step(pattern)
    if word == "one":
        return ("one",)
    if word == "turned":
        return ("turned", at, count_paper(turned_by(pattern, at)))
    if word == "both":
        other = exchanged(pattern, at)
        second = None if other is None else count_paper(other)
        return ("both", at, count_paper(swap_at(pattern, at, at + 1)), second)
    return (word, at, count_paper(taken_out(pattern, at)))
