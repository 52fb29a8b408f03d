"""States of a farm: for each field, within how many days, the present one counted, it must be harvested.

Before day 0 the state is `farm.limits`.
"""


def _choices_of(names, size):
    """Return the list of all choices of so many names, in list order."""
    if size == 0:
        return [()]
    found = []
    for place, name in enumerate(names):
        for others in _choices_of(names[place + 1:], size - 1):
            found.append((name,) + others)
    return found


def state_after(fields, state, choice):
    """Return the state behind a day with this choice, or None if something rots on this day."""
    following = []
    for (name, limit), left in zip(fields, state):
        if name in choice:
            following.append(limit)
        elif left == 1:
            return None
        else:
            following.append(left - 1)
    return tuple(following)


def _steps_from(fields, state, choices):
    """Return the list of tuples (choice, next state) of all choices with which nothing rots."""
    steps = [(choice, state_after(fields, state, choice)) for choice in choices]
    return [(choice, after) for choice, after in steps if after is not None]


def steps_of(farm, carts):
    """Return a dict from each state that there can be to its list of tuples (choice, next state).

    The choices are in list order; those with which something rots are left out.
    """
    fields = farm.fields
    choices = _choices_of(farm.names, min(carts, len(farm)))
    steps = {}
    waiting = [farm.limits]
    while waiting:
        state = waiting.pop()
        if state not in steps:
            steps[state] = _steps_from(fields, state, choices)
            waiting.extend([after for choice, after in steps[state]])
    return steps


def _states_before(steps):
    """Return a dict from each state to the list of the states from which a step leads to it."""
    before = {state: [] for state in steps}
    for state, following in steps.items():
        for choice, after in following:
            before[after].append(state)
    return before


def days_until_rot(steps):
    """Return a dict from each state from which something has to rot to the most days without rot.

    A state that is not in the dict is one from which nothing ever has to rot.
    """
    before = _states_before(steps)
    # How many steps of a state do not lead to a state that is known to end in rot.
    hopes = {state: len(following) for state, following in steps.items()}
    found = {}
    days = 0
    wave = [state for state in steps if hopes[state] == 0]
    while wave:
        next_wave = []
        for state in wave:
            found[state] = days
            for earlier in before[state]:
                hopes[earlier] -= 1
                if hopes[earlier] == 0:
                    next_wave.append(earlier)
        wave = next_wave
        days += 1
    return found
