"""Plans: what is harvested on each day, and what rots then."""

from harvestcarts.checks import LAST_DAY, check_number, is_number
from harvestcarts.errors import InvalidNumber, InvalidPlan, UnknownField

MAX_DAYS = 5000
MAX_RANGE = 10000


def _first_wrong_day(days):
    """Return the index of the first day that is not allowed at its place, or None."""
    for index, names in enumerate(days):
        if index == MAX_DAYS or len(set(names)) < len(names):
            return index
    return None


def _place(day, lead, count):
    """Return which of the `count` days that a plan was made of a day repeats."""
    if day < count:
        return day
    return lead + (day - lead) % (count - lead)


class Plan:
    """The names of the fields that are harvested on each day, for ever; it never changes."""

    def __init__(self, *days, lead=0):
        index = _first_wrong_day(days)
        if index is None and not is_number(lead, 0, len(days) - 1):
            index = len(days)
        if index is not None:
            raise InvalidPlan(index=index)
        self._days = tuple([tuple(names) for names in days])
        self._lead = lead

    @property
    def days(self):
        """The tuple of the days that the plan was made of, a tuple of names for each."""
        return self._days

    @property
    def lead(self):
        """The number of the day that follows behind the last one."""
        return self._lead

    @property
    def carts(self):
        """The greatest number of fields that are harvested on a day."""
        return max([len(names) for names in self._days])

    def harvests(self, name, first, last):
        """Yield all days from a first to a last one on which a field is harvested."""
        check_number(first, 0, LAST_DAY)
        check_number(last, 0, LAST_DAY)
        if last < first or last - first >= MAX_RANGE:
            raise InvalidNumber(f"there are not 1 to {MAX_RANGE} days from {first} to {last}")
        for day in range(first, last + 1):
            if name in self._names_on(day):
                yield day

    def _names_on(self, day):
        """Return the tuple of a day, which may be any from 0 on."""
        return self._days[_place(day, self._lead, len(self._days))]

    def __len__(self):
        return len(self._days)

    def __getitem__(self, at):
        check_number(at, 0, LAST_DAY)
        return self._names_on(at)

    def __iter__(self):
        raise TypeError("a plan cannot be iterated over")

    def __rshift__(self, other):
        check_number(other, 0, LAST_DAY)
        if other < self._lead:
            days = self._days[other:]
            lead = self._lead - other
            return Plan(*days, lead=lead)
        place = _place(other, self._lead, len(self._days))
        days = self._days[place:] + self._days[self._lead:place]
        return Plan(*days)

    def __eq__(self, other):
        return isinstance(other, Plan) and self._days == other._days and self._lead == other._lead

    def __call__(self, name, day):
        check_number(day, 0, LAST_DAY)
        # So many days from any day on contain the rest of the lead and a whole turn.
        for later in range(day, day + len(self._days)):
            if name in self._names_on(later):
                return later
        return None


def _check_fields(farm, plan):
    """Raise UnknownField for the first field of a plan that a farm does not have."""
    for names in plan.days:
        for name in names:
            if name not in farm:
                raise UnknownField(name=name)


def _dry_days(days, lead, field, first, last):
    """Return the dry days of a field from a first to a last day.

    A day is dry if as many days as the limit, this one the last of them and none before the
    first day, pass without a harvest of the field.
    """
    name, limit = field
    found = []
    dry = 0
    for day in range(first, last + 1):
        dry = 0 if name in days[_place(day, lead, len(days))] else dry + 1
        if dry >= limit:
            found.append(day)
    return found


def _all_dry_days(plan, field):
    """Return the dry days of a plan for all spans of days that begin on a day of `plan.days`.

    A span that begins later contains the same places as one of these.
    """
    return _dry_days(plan.days, plan.lead, field, 0, len(plan) + field[1] - 2)


def _lasts_near(days, lead, field, place):
    """Tell whether a field is harvested in all spans of its limit that contain a place.

    A span contains the place, or the same place one turn later, if it begins on one of the
    days; more turns need not be looked at.
    """
    limit = field[1]
    for day in (place, place + len(days) - lead):
        if _dry_days(days, lead, field, max(0, day - limit + 1), day + limit - 1):
            return False
    return True


def first_rot(farm, plan):
    """Return (day, name) of the first field that rots, or None if nothing ever does."""
    _check_fields(farm, plan)
    found = None
    for name, limit in farm.fields:
        dry = _all_dry_days(plan, (name, limit))
        if dry and (found is None or dry[0] < found[0]):
            found = (dry[0], name)
    return found


def _dry_spans(farm, plan):
    """Return a tuple (name, places) for each span of days in which a field is missing."""
    spans = []
    for name, limit in farm.fields:
        for day in _all_dry_days(plan, (name, limit)):
            places = [_place(part, plan.lead, len(plan)) for part in range(day - limit + 1, day + 1)]
            spans.append((name, places))
    return spans


def _fills_all(spans, days, one, other):
    """Tell whether the exchange of two days brings the missing field into each span."""
    for name, places in spans:
        into_one = one in places and name in days[other]
        into_other = other in places and name in days[one]
        if not into_one and not into_other:
            return False
    return True


def _all_last_near(farm, days, lead, places):
    """Tell whether all fields are harvested in time around some places."""
    for field in farm.fields:
        for place in places:
            if not _lasts_near(days, lead, field, place):
                return False
    return True


def _swapped(days, one, other):
    """Return the list of the days with two of them exchanged."""
    changed = list(days)
    changed[one], changed[other] = days[other], days[one]
    return changed


def mend_by_swap(farm, plan):
    """Return the first plan by an exchange of two days with which nothing ever rots, or None."""
    _check_fields(farm, plan)
    spans = _dry_spans(farm, plan)
    days = plan.days
    lead = plan.lead
    for one in range(len(days)):
        for other in range(one + 1, len(days)):
            if _fills_all(spans, days, one, other):
                # Besides the dry spans, only what lies around the two days has changed.
                changed = _swapped(days, one, other)
                if _all_last_near(farm, changed, lead, (one, other)):
                    return Plan(*changed, lead=lead)
    return None


def needless_harvests(farm, plan):
    """Return the list of all harvests (number of the day, name) that can be left out alone."""
    if first_rot(farm, plan) is not None:
        return []
    changed = list(plan.days)
    found = []
    for place, names in enumerate(plan.days):
        for name in names:
            changed[place] = tuple([other for other in names if other != name])
            if _lasts_near(changed, plan.lead, (name, farm[name]), place):
                found.append((place, name))
        changed[place] = names
    return found
