"""Plans that nobody knows: what can have happened on a farm, by what was seen of it."""

from harvestcarts.checks import MAX_CARTS, check_number, is_number
from harvestcarts.errors import Contradiction, UnknownField
from harvestcarts.states import days_until_rot, steps_of

MAX_PASSED = 100


def _ways_after_day(steps, ways):
    """Return in how many ways each state can be reached behind one more day."""
    found = {}
    for state, many in ways.items():
        for choice, after in steps[state]:
            found[after] = found.get(after, 0) + many
    return found


class PlanObserver:
    """What can have happened on a farm on which nothing has rotted so far."""

    def __init__(self, farm, carts):
        check_number(carts, 0, MAX_CARTS)
        self._names = farm.names
        self._limits = farm.limits
        self._steps = steps_of(farm, carts)
        self._ends = days_until_rot(self._steps)
        self._ways = {farm.limits: 1}
        self._today = 0
        self._records = []

    @property
    def today(self):
        """The number of the present day."""
        return self._today

    @property
    def records(self):
        """The list of all accepted observations, tuples (day, name, days)."""
        return list(self._records)

    def pass_days(self, count):
        """Let days pass and return in how many ways choices can have been made so far."""
        check_number(count, 0, MAX_PASSED)
        ways = self._ways
        for _ in range(count):
            ways = _ways_after_day(self._steps, ways)
        if not ways:
            raise Contradiction(f"something must rot within {count} days")
        self._ways = ways
        self._today += count
        return sum(ways.values())

    def see_left(self, name, days):
        """Record within how many days a field must be harvested, and return the ways so far."""
        place = self._place_of(name)
        ways = {}
        # A boolean is equal to a number of days, but it is none.
        if is_number(days, 1, self._limits[place]):
            ways = {state: many for state, many in self._ways.items() if state[place] == days}
        if not ways:
            raise Contradiction(f"{name} cannot have to be harvested within {days} days")
        self._ways = ways
        self._records.append((self._today, name, days))
        return sum(ways.values())

    def possible_left(self, name):
        """Return the ascending list of the days within which a field may have to be harvested."""
        place = self._place_of(name)
        return sorted({state[place] for state in self._ways})

    def can_last(self):
        """Return in how many of the ways nothing ever has to rot, if the right choices follow."""
        return sum([many for state, many in self._ways.items() if state not in self._ends])

    def _place_of(self, name):
        """Return the place of a field in the farm."""
        if name not in self._names:
            raise UnknownField(name=name)
        return self._names.index(name)
