"""The errors of the package."""


class FarmError(ValueError):
    """The base class of all errors of the package."""


class InvalidFarm(FarmError):
    """A field of a farm is invalid, repeats a name or is one too many, or there is no field."""

    def __init__(self, *, index):
        super().__init__(f"there is no valid field at index {index}")
        self.index = index


class TooManyStates(FarmError):
    """The product of all limits of a farm is too large."""


class UnknownField(FarmError):
    """A farm has no field of this name."""

    def __init__(self, *, name):
        super().__init__(f"the farm has no field {name!r}")
        self.name = name


class InvalidPlan(FarmError):
    """A day of a plan repeats a name or is one too many, or the lead is none of its days."""

    def __init__(self, *, index):
        super().__init__(f"there is no valid day at index {index}")
        self.index = index


class InvalidNumber(FarmError):
    """A number is out of its range."""


class NotHarmonic(FarmError):
    """The limits of a farm do not divide each other."""


class TooFewCarts(FarmError):
    """The share of a farm is more than the number of carts."""


class Contradiction(FarmError):
    """What was seen cannot have happened."""


class InvalidCart(FarmError):
    """A parameter of a cart is invalid."""

    def __init__(self, *, part):
        super().__init__(f"the {part} of the cart is invalid")
        self.part = part


class InvalidOperation(FarmError):
    """An operation of a list is none, or does not have the right number of arguments."""

    def __init__(self, *, index):
        super().__init__(f"there is no valid operation at index {index}")
        self.index = index


class InvalidText(FarmError):
    """A row of the text of a plan does not have its form."""

    def __init__(self, *, row, word):
        super().__init__(f"there is no valid word {word} in row {row}")
        self.row = row
        self.word = word


class DecodeError(FarmError):
    """A byte of a farm is wrong, missing or one too many."""

    def __init__(self, *, offset):
        super().__init__(f"there is no valid byte at offset {offset}")
        self.offset = offset
