"""Live rings made of their logs."""

from throwshelves.demands import demand
from throwshelves.live import LiveRing
from throwshelves.liveevents import is_log


def replayed(log):
    """A new live ring after the events of the log, which has counted no calls."""
    demand(is_log(log), "log")
    _, book = log[0]
    ring = LiveRing(book)
    ring.follow(log[1:])
    return ring
