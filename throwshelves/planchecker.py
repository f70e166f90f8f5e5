"""The checker of plans."""

from throwshelves.deeds import bridges_in, plan_run
from throwshelves.demands import accept
from throwshelves.errors import InvalidPaper


def lets_plan(pattern, thing):
    """How many bridges any value that is a plan of the pattern has; InvalidPaper for the first thing that bars it."""
    if not isinstance(thing, tuple):
        raise InvalidPaper("shape", -1)
    throws, fault = plan_run(thing)
    accept(fault)
    if throws != pattern:
        raise InvalidPaper("pattern", -1)
    return bridges_in(thing)
