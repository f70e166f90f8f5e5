"""How parameters are refused."""

from throwshelves.errors import NotUsable


def demand(holds, name):
    """NotUsable for the parameter of this name, unless it holds that it is as stated."""
    if not holds:
        raise NotUsable(name, -1)
