"""Plans as objects."""

from throwshelves.bridges import bridge_plan, plan_book
from throwshelves.deeds import bridges_in, can_stand, is_deed, plan_run
from throwshelves.demands import demand
from throwshelves.errors import NotUsable
from throwshelves.patterns import is_throws


class Plan:
    """A plan of these deeds; it never changes."""

    def __init__(self, *deeds):
        if not deeds:
            raise NotUsable("deeds", 0)
        throws, fault = plan_run(deeds)
        if fault is not None:
            raise NotUsable("deeds", fault[1])
        self._deeds = deeds
        self._throws = throws

    @classmethod
    def of(cls, pattern):
        """The Plan of any value that is a pattern."""
        demand(is_throws(pattern), "pattern")
        deeds = bridge_plan(pattern)
        return Plan(*deeds)

    @property
    def deeds_now(self):
        """The deeds."""
        return self._deeds

    @property
    def throws_now(self):
        """The pattern."""
        return self._throws

    @property
    def bridges_now(self):
        """How many bridges it has."""
        return bridges_in(self._deeds)

    def can_add(self, deed):
        """Whether any value is a deed that can stand at the end."""
        return is_deed(deed) and can_stand(self._throws, deed)

    def __add__(self, other):
        demand(self.can_add(other), "deed")
        deeds = self._deeds + (other,)
        return Plan(*deeds)

    def __call__(self, prime, digits):
        return plan_book(self._deeds, prime, digits)

    def __contains__(self, x):
        return is_deed(x) and x in self._deeds

    def __len__(self):
        return len(self._deeds)

    def __iter__(self):
        return iter(self._deeds)

    def __eq__(self, other):
        return isinstance(other, Plan) and self._deeds == other._deeds
