"""The two answers to a factor, a heap and a limit: who is to take has lost, or can win by a taking."""

from takeagain.checks import is_taking, is_whole_list
from takeagain.steps import sum_of


class Answer:
    """What is told of a factor, a heap and a limit."""


class Lost(Answer):
    """Who is to take can't win, as the heap's sum shows: `parts`."""

    def __init__(self, parts):
        self.parts = list(parts)

    def shows(self, factor, heap, limit):
        """Tell whether the parts are the heap's sum, and it is lost at this limit."""
        # [True] equals [1], but True is no number, so it is in no sum.
        if not is_whole_list(self.parts, 1):
            return False
        return self.parts == sum_of(factor, heap) and is_lost(self.parts, limit)


class Won(Answer):
    """Who is to take can win, by this taking: `taking`."""

    def __init__(self, taking):
        self.taking = taking

    def shows(self, factor, heap, limit):
        """Tell whether the taking is one of this heap and limit, and leaves what is lost."""
        if not is_taking(heap, limit, self.taking):
            return False
        next_heap, next_limit = left_by(factor, heap, self.taking)
        return is_lost(sum_of(factor, next_heap), next_limit)


def is_lost(parts, limit):
    """Tell whether who is to take can't win from the heap that has this sum."""
    return not parts or parts[-1] > limit


def left_by(factor, heap, taking):
    """Return the heap and the limit that stand behind a taking."""
    return heap - taking, factor * taking
