"""Farms: fields, each with the number of days within which it must be harvested again."""

from math import gcd

from harvestcarts.checks import is_name, is_number
from harvestcarts.errors import InvalidFarm, TooManyStates, UnknownField

MAX_LIMIT = 30


def _first_wrong_field(fields, most):
    """Return the index of the first field that is not allowed at its place, or None."""
    names = [name for name, limit in fields]
    for index, (name, limit) in enumerate(fields):
        if index == most or not is_name(name) or not is_number(limit, 1, MAX_LIMIT):
            return index
        if name in names[:index]:
            return index
    if not fields:
        return 0
    return None


def _product_of(limits):
    """Return the product of all limits."""
    states = 1
    for limit in limits:
        states = states * limit
    return states


class Farm:
    """A farm of 1 to 6 fields, tuples (name, limit); it never changes."""

    MAX_FIELDS = 6
    MAX_STATES = 4000

    def __init__(self, *fields):
        index = _first_wrong_field(fields, self.MAX_FIELDS)
        if index is not None:
            raise InvalidFarm(index=index)
        if _product_of([limit for name, limit in fields]) > self.MAX_STATES:
            raise TooManyStates(f"the product of all limits is more than {self.MAX_STATES}")
        self._fields = tuple([(name, limit) for name, limit in fields])

    @classmethod
    def equal(cls, limit, *names):
        """Return the farm of fields with these names and equal limits."""
        fields = [(name, limit) for name in names]
        return cls(*fields)

    @property
    def fields(self):
        """The tuple of all fields."""
        return self._fields

    @property
    def names(self):
        """The tuple of all names."""
        return tuple([name for name, limit in self._fields])

    @property
    def limits(self):
        """The tuple of all limits."""
        return tuple([limit for name, limit in self._fields])

    @property
    def share(self):
        """The sum of 1 / limit over all fields, (numerator, denominator) in lowest terms."""
        denominator = _product_of([limit for name, limit in self._fields])
        numerator = sum([denominator // limit for name, limit in self._fields])
        divisor = gcd(numerator, denominator)
        return numerator // divisor, denominator // divisor

    def with_limit(self, name, limit):
        """Return the farm in which the field of this name has this limit."""
        if name not in self:
            raise UnknownField(name=name)
        fields = [(other, limit if other == name else own) for other, own in self._fields]
        return Farm(*fields)

    def __len__(self):
        return len(self._fields)

    def __contains__(self, x):
        return x in [name for name, limit in self._fields]

    def __getitem__(self, at):
        for name, limit in self._fields:
            if name == at:
                return limit
        raise UnknownField(name=at)

    def __iter__(self):
        raise TypeError("a farm cannot be iterated over")

    def __sub__(self, other):
        if other not in self:
            raise UnknownField(name=other)
        fields = [(name, limit) for name, limit in self._fields if name != other]
        return Farm(*fields)

    def __add__(self, other):
        if not isinstance(other, Farm):
            return NotImplemented
        fields = self._fields + other._fields
        return Farm(*fields)

    def __eq__(self, other):
        return isinstance(other, Farm) and self._fields == other._fields


def least_carts(farm):
    """Return the smallest integer that is not less than the share of a farm."""
    numerator, denominator = farm.share
    return (numerator + denominator - 1) // denominator
