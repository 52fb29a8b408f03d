"""Search through all states of a farm: how long nothing rots, and plans that go on for ever."""

from harvestcarts.checks import MAX_CARTS, check_number
from harvestcarts.farms import least_carts
from harvestcarts.plans import Plan
from harvestcarts.states import days_until_rot, steps_of

MAX_STATES_DAY = 1000


def longest_days(farm, carts):
    """Return for how many days nothing rots at most, or None if there is no end."""
    check_number(carts, 0, MAX_CARTS)
    return days_until_rot(steps_of(farm, carts)).get(farm.limits)


def _lasting_steps(following, ends):
    """Return the steps (choice, next state) behind which nothing ever has to rot."""
    return [(choice, after) for choice, after in following if after not in ends]


def find_plan(farm, carts):
    """Return the plan of the first choices with which nothing ever has to rot, or None."""
    check_number(carts, 0, MAX_CARTS)
    steps = steps_of(farm, carts)
    ends = days_until_rot(steps)
    state = farm.limits
    if state in ends:
        return None
    days = []
    day_of_state = {}
    while state not in day_of_state:
        day_of_state[state] = len(days)
        choice, state = _lasting_steps(steps[state], ends)[0]
        days.append(choice)
    lead = day_of_state[state]
    return Plan(*days, lead=lead)


def fewest_carts(farm):
    """Return the fewest carts with which there is a plan."""
    # A cart for each field always is enough, and less than the share never is.
    for carts in range(least_carts(farm), len(farm)):
        if longest_days(farm, carts) is None:
            return carts
    return len(farm)


def states_left(farm, carts, days):
    """Yield how many states there can be before day 0, 1 and so on, up to a day, while there are any."""
    check_number(carts, 0, MAX_CARTS)
    check_number(days, 0, MAX_STATES_DAY)
    steps = steps_of(farm, carts)
    states = {farm.limits: True}
    for _ in range(days + 1):
        if not states:
            return
        yield len(states)
        states = {after: True for state in states for choice, after in steps[state]}


def _state_behind(steps, state, days):
    """Return the state behind days with these choices, or None if one is not one or something rots."""
    for day in days:
        found = [after for choice, after in steps[state] if choice == day]
        if not found:
            return None
        state = found[0]
    return state


def choices_that_last(farm, carts, *days):
    """Return the list of all choices for the day behind these with which nothing ever has to rot.

    Return None if one of the given choices is not one, or something rots with them.
    """
    check_number(carts, 0, MAX_CARTS)
    steps = steps_of(farm, carts)
    state = _state_behind(steps, farm.limits, days)
    if state is None:
        return None
    return [choice for choice, after in _lasting_steps(steps[state], days_until_rot(steps))]
