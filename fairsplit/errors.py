"""The refusals."""


class SplitError(ValueError):
    """Any refusal."""


class NoPeople(SplitError):
    """There is nobody among whom to divide."""


class TooMany(SplitError):
    """There are more people or more goods than may be."""


class Uneven(SplitError):
    """There are not as many bids as there must be."""


class BadBid(SplitError):
    """A bid is not a whole number within the bounds."""


class NoDeal(SplitError):
    """The heaps and sums don't fit the people and the goods."""


class NoPerson(SplitError):
    """It is not the number of a person."""


class NoGood(SplitError):
    """It is not the number of a good."""


class NoText(SplitError):
    """The text is not one of bids."""
