"""Limits that divide each other, and the rule by which such fields are harvested."""

from harvestcarts.checks import LAST_DAY, MAX_CARTS, check_number
from harvestcarts.errors import NotHarmonic, TooFewCarts
from harvestcarts.farms import least_carts


def is_harmonic(farm):
    """Tell whether each limit, in ascending order, divides the next one."""
    limits = sorted(farm.limits)
    return all([longer % shorter == 0 for shorter, longer in zip(limits, limits[1:])])


def _is_free(taken, cart, rest):
    """Tell whether a cart has no field yet on the days that leave this rest.

    The limits in `taken`, tuples (limit, cart, rest), divide the number that leaves the rest.
    """
    for limit, other_cart, other_rest in taken:
        if other_cart == cart and rest % limit == other_rest:
            return False
    return True


def _places_of(farm, carts):
    """Return a dict from each name to a tuple (cart, rest)."""
    places = {}
    taken = []
    for limit, name in sorted([(limit, name) for name, limit in farm.fields]):
        # There is one: the fields so far have shorter limits, so each of them takes a whole number
        # of the carts' rests, and with this field they do not take more than there are.
        free = [(cart, rest) for cart in range(carts) for rest in range(limit) if _is_free(taken, cart, rest)]
        cart, rest = free[0]
        places[name] = (cart, rest)
        taken.append((limit, cart, rest))
    return places


class Rule:
    """A cart and a rest for each field, for ever."""

    def __init__(self, farm, carts):
        check_number(carts, 1, MAX_CARTS)
        if not is_harmonic(farm):
            raise NotHarmonic("the limits do not divide each other")
        if least_carts(farm) > carts:
            raise TooFewCarts(f"the share of the farm is more than {carts}")
        self._limits = dict(farm.fields)
        self._places = _places_of(farm, carts)

    def count(self, name, days):
        """Return how often a field is harvested in the first so many days."""
        check_number(days, 0, LAST_DAY)
        limit = self._limits[name]
        rest = self._places[name][1]
        return (days - rest + limit - 1) // limit

    def __getitem__(self, at):
        return self._places.get(at)

    def __iter__(self):
        raise TypeError("a rule cannot be iterated over")

    def __call__(self, day):
        check_number(day, 0, LAST_DAY)
        harvested = {}
        for name, (cart, rest) in self._places.items():
            if day % self._limits[name] == rest:
                harvested[cart] = name
        return tuple([harvested[cart] for cart in sorted(harvested)])
