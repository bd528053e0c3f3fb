"""The errors of the program: one class for each kind of refusal."""


class TakeError(ValueError):
    """What was handed in is refused."""


class BadFactor(TakeError):
    """What was handed in as a factor is none."""


class BadHeap(TakeError):
    """What was handed in as a heap is none."""


class BadLimit(TakeError):
    """What was handed in as a limit is none."""


class BadNumber(TakeError):
    """What was handed in as the number of a step is none, or too great."""


class BadSum(TakeError):
    """What was handed in as a sum is none by the factor."""


class BadTaking(TakeError):
    """What was handed in as a taking is none of this heap and limit."""
