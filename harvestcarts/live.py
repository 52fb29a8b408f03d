"""Farms that are worked day by day, with undo and redo."""

from harvestcarts.checks import check_number
from harvestcarts.errors import FarmError, InvalidOperation, UnknownField
from harvestcarts.farms import MAX_LIMIT

MAX_WAIT = 1000
# The word that an operation begins with, and its length.
OPERATION_FORMS = (("harvest", 2), ("wait", 2), ("change_limit", 3), ("undo", 1), ("redo", 1))


class Moment:
    """The state of a live farm; it never changes, so that several deeds may keep it."""

    def __init__(self, day, limit_of, left_of, harvested):
        self.day = day
        self.limit_of = limit_of
        self.left_of = left_of
        self.harvested = harvested


class Deed:
    """An operation, the moments before and behind it, and the list of what rotted in it."""

    def __init__(self, operation, before, after, rotted):
        self.operation = operation
        self.before = before
        self.after = after
        self.rotted = rotted


class Book:
    """The present moment of a live farm, the deeds in effect, and those that were undone."""

    def __init__(self, moment, done, undone):
        self.moment = moment
        self.done = list(done)
        self.undone = list(undone)

    def twin(self):
        """Return a book of its own that is like this one."""
        return Book(self.moment, self.done, self.undone)

    def write(self, operation, after, rotted):
        """Take an operation and the moment behind it; nothing can be redone then."""
        self.done.append(Deed(operation, self.moment, after, rotted))
        self.undone.clear()
        self.moment = after


def _rotten_at_end(moment):
    """Return the list of tuples (day, name) of what rots at the end of the day of a moment."""
    return [(moment.day, name) for name, left in moment.left_of.items()
            if left == 1 and name not in moment.harvested]


def _behind_day(moment):
    """Return the moment at the beginning of the next day."""
    left_of = {}
    for name, left in moment.left_of.items():
        # What is harvested or rots, and is sown again, has its whole limit.
        fresh = left == 1 or name in moment.harvested
        left_of[name] = moment.limit_of[name] if fresh else left - 1
    return Moment(moment.day + 1, moment.limit_of, left_of, ())


def _check_operations(operations):
    """Raise InvalidOperation for the first operation that does not have its form."""
    for index, operation in enumerate(operations):
        if not operation or (operation[0], len(operation)) not in OPERATION_FORMS:
            raise InvalidOperation(index=index)


class LiveFarm:
    """A farm that is worked day by day, from day 0 on."""

    def __init__(self, farm):
        limit_of = dict(farm.fields)
        self._names = farm.names
        self._book = Book(Moment(0, limit_of, limit_of, ()), [], [])

    @property
    def now(self):
        """The number of the present day."""
        return self._book.moment.day

    @property
    def days_left(self):
        """A dict from all names to how many days are left, the present one counted."""
        return dict(self._book.moment.left_of)

    @property
    def limits_now(self):
        """A dict from all names to their limits."""
        return dict(self._book.moment.limit_of)

    @property
    def rotten(self):
        """The list of tuples (day, name) of all that has rotted."""
        return [entry for deed in self._book.done for entry in deed.rotted]

    @property
    def history(self):
        """The list of all operations in effect, tuples of the name of the method and its arguments."""
        return [deed.operation for deed in self._book.done]

    def harvest(self, name):
        """Harvest a field on the present day and return whether this is its first harvest on this day."""
        self._check_name(name)
        before = self._book.moment
        is_first = name not in before.harvested
        after = before
        if is_first:
            after = Moment(before.day, before.limit_of, before.left_of, before.harvested + (name,))
        self._book.write(("harvest", name), after, [])
        return is_first

    def wait(self, days):
        """Let days pass and return the list of tuples (day, name) of all that rots in them."""
        check_number(days, 0, MAX_WAIT)
        moment = self._book.moment
        rotted = []
        for _ in range(days):
            rotted.extend(_rotten_at_end(moment))
            moment = _behind_day(moment)
        self._book.write(("wait", days), moment, rotted)
        return list(rotted)

    def change_limit(self, name, limit):
        """Give a field another limit and return the former one."""
        self._check_name(name)
        check_number(limit, 1, MAX_LIMIT)
        before = self._book.moment
        limit_of = dict(before.limit_of)
        limit_of[name] = limit
        left_of = dict(before.left_of)
        left_of[name] = min(left_of[name], limit)
        after = Moment(before.day, limit_of, left_of, before.harvested)
        self._book.write(("change_limit", name, limit), after, [])
        return before.limit_of[name]

    def undo(self):
        """Undo the last operation in effect and return whether there was one."""
        book = self._book
        if not book.done:
            return False
        deed = book.done.pop()
        book.undone.append(deed)
        book.moment = deed.before
        return True

    def redo(self):
        """Execute the operation that was undone last once more and return whether there was one."""
        book = self._book
        if not book.undone:
            return False
        deed = book.undone.pop()
        book.done.append(deed)
        book.moment = deed.after
        return True

    def apply_all(self, operations):
        """Execute operations, all or none, and return the list of their results."""
        _check_operations(operations)
        book = self._book
        self._book = book.twin()
        try:
            return [self._run(operation) for operation in operations]
        except FarmError:
            self._book = book
            raise

    def tried(self, operations):
        """Return the list of the results of operations and leave everything as it is."""
        with Trial(self):
            return self.apply_all(operations)

    @classmethod
    def replay(cls, farm, *operations):
        """Return a live farm after operations."""
        live = cls(farm)
        live.apply_all(operations)
        return live

    def _check_name(self, name):
        """Raise UnknownField unless there is a field of this name."""
        if name not in self._names:
            raise UnknownField(name=name)

    def _run(self, operation):
        """Execute an operation, a tuple that has its form, and return its result."""
        word = operation[0]
        if word == "harvest":
            return self.harvest(operation[1])
        if word == "wait":
            return self.wait(operation[1])
        if word == "change_limit":
            return self.change_limit(operation[1], operation[2])
        if word == "undo":
            return self.undo()
        return self.redo()


class Trial:
    """At the end of a block `with Trial(live):` the live farm is as it was at its beginning."""

    def __init__(self, live):
        self._live = live
        self._book = None

    def __enter__(self):
        self._book = self._live._book
        self._live._book = self._book.twin()
        return self._live

    def __exit__(self, kind, value, trace):
        live = self._live
        live._book = self._book
