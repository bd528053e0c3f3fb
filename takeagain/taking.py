"""Who wins from a heap within a limit, by which taking, and what stands behind a taking."""

from takeagain.answers import Lost, Won, is_lost, left_by
from takeagain.checks import check_factor, check_heap, is_taking, is_whole
from takeagain.errors import BadLimit, BadTaking
from takeagain.steps import sum_of


def told(factor, heap, limit):
    """Return, as a new Lost or a new Won, whether who is to take can win."""
    check_turn(factor, heap, limit)
    parts = sum_of(factor, heap)
    if is_lost(parts, limit):
        return Lost(parts)
    # Without its last part the sum is still one, and the part that is then the last
    # is more than the factor times the taking: more than the limit the other one gets.
    return Won(parts[-1])


def behind(factor, heap, limit, taking):
    """Return the pair of the heap and the limit that stand behind the taking."""
    check_turn(factor, heap, limit)
    check_taking(heap, limit, taking)
    return left_by(factor, heap, taking)


def check_turn(factor, heap, limit):
    """Refuse what is no factor, no heap or no limit, in this order."""
    check_factor(factor)
    check_heap(heap)
    check_limit(limit)


def check_limit(limit):
    """Refuse what is no limit."""
    if not is_whole(limit, 0):
        raise BadLimit("a limit is a whole number from 0 on")


def check_taking(heap, limit, taking):
    """Refuse what is no taking from this heap within this limit."""
    if not is_taking(heap, limit, taking):
        raise BadTaking("a taking is a whole number from 1 on, no more than the heap and the limit")
