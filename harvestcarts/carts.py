"""Carts that do not always work, and the rule to harvest the most urgent fields first."""

from harvestcarts.checks import LAST_DAY, MAX_CARTS, check_number, is_name, is_number
from harvestcarts.errors import InvalidCart
from harvestcarts.plans import Plan
from harvestcarts.states import state_after

MAX_SPAN = 1000
MAX_URGENT_DAYS = 5000


def _check_part(part, value, low, high):
    """Raise InvalidCart unless the value of a part is an integer from low to high."""
    if not is_number(value, low, high):
        raise InvalidCart(part=part)


class Cart:
    """A cart that works on all days."""

    KIND = "steady"

    def __init__(self, name):
        if not is_name(name):
            raise InvalidCart(part="name")
        self.name = name

    def works_on(self, day):
        """Tell whether the cart works on a day."""
        check_number(day, 0, LAST_DAY)
        return True


class RestingCart(Cart):
    """A cart that does not work on the days whose number leaves a rest if divided by `every`."""

    KIND = "resting"

    def __init__(self, name, every, *, day=0):
        super().__init__(name)
        _check_part("every", every, 2, MAX_SPAN)
        _check_part("day", day, 0, every - 1)
        self.every = every
        self.day = day

    def works_on(self, day):
        """Tell whether the cart works on a day."""
        check_number(day, 0, LAST_DAY)
        return day % self.every != self.day


class ShiftCart(Cart):
    """A cart that works for some days from day 0 on, then pauses for some, and so on."""

    KIND = "shift"

    def __init__(self, name, *, work, pause):
        super().__init__(name)
        _check_part("work", work, 1, MAX_SPAN)
        _check_part("pause", pause, 1, MAX_SPAN)
        self.work = work
        self.pause = pause

    def works_on(self, day):
        """Tell whether the cart works on a day."""
        check_number(day, 0, LAST_DAY)
        return day % (self.work + self.pause) < self.work


class LateCart(Cart):
    """A cart that works from a first day on."""

    KIND = "late"

    def __init__(self, name, first):
        super().__init__(name)
        _check_part("first", first, 0, LAST_DAY)
        self.first = first

    def works_on(self, day):
        """Tell whether the cart works on a day."""
        check_number(day, 0, LAST_DAY)
        return day >= self.first


def carts_on(carts, day):
    """Return how many of some carts work on a day."""
    check_number(day, 0, LAST_DAY)
    return len([cart for cart in carts if cart.works_on(day)])


def _most_urgent(fields, state, count):
    """Return the tuple of the names of the so many most urgent fields, in the order of the farm."""
    by_urgency = sorted([(left, place) for place, left in enumerate(state)])
    places = [place for left, place in by_urgency[:count]]
    return tuple([name for place, (name, limit) in enumerate(fields) if place in places])


def _first_rotten(fields, state, choice):
    """Return the name of the first field that rots on a day with this choice, or None."""
    for (name, limit), left in zip(fields, state):
        if left == 1 and name not in choice:
            return name
    return None


def urgent_days(farm, carts, days):
    """Yield for each of the first days what is harvested, up to the first day on which something rots."""
    check_number(days, 0, MAX_URGENT_DAYS)
    # The caller may change its list while the days are still asked for.
    own_carts = list(carts)
    fields = farm.fields
    state = farm.limits
    for day in range(days):
        if state is None:
            return
        choice = _most_urgent(fields, state, carts_on(own_carts, day))
        yield choice
        state = state_after(fields, state, choice)


def urgent_rot(farm, carts, days):
    """Return (day, name) of the first field that rots in the first days, or None."""
    check_number(days, 0, MAX_URGENT_DAYS)
    fields = farm.fields
    state = farm.limits
    for day in range(days):
        choice = _most_urgent(fields, state, carts_on(carts, day))
        name = _first_rotten(fields, state, choice)
        if name is not None:
            return (day, name)
        state = state_after(fields, state, choice)
    return None


def urgent_plan(farm, count):
    """Return the plan of the rule for a number of steady carts, or None if something ever rots."""
    check_number(count, 0, MAX_CARTS)
    fields = farm.fields
    state = farm.limits
    days = []
    day_of_state = {}
    while state not in day_of_state:
        day_of_state[state] = len(days)
        choice = _most_urgent(fields, state, count)
        days.append(choice)
        state = state_after(fields, state, choice)
        if state is None:
            return None
    lead = day_of_state[state]
    return Plan(*days, lead=lead)
