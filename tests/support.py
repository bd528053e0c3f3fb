"""What several tests need: rows made by the document's words, things of wrong kinds, refusals."""

from decimal import Decimal
from enum import IntEnum
from fractions import Fraction

from takeagain import errors

REFUSALS = (errors.BadFactor, errors.BadHeap, errors.BadLimit,
            errors.BadNumber, errors.BadSum, errors.BadTaking)

FACTORS = tuple(range(1, 31))
SMALL_FACTORS = (1, 2, 3, 5, 30)
GREAT_FACTORS = (1, 2, 3, 7, 17, 30)

# Of forty figures each.
GREAT_HEAPS = (10 ** 39, 10 ** 39 + 1, 7 ** 47, int("1234567890" * 4), 9 * 10 ** 39 + 12345, 10 ** 40 - 1)


def row_by_words(factor, many):
    """The first steps, made by the words of point 2 without any short cut."""
    row = [1]
    while len(row) < many:
        ahead = row[-1]
        least = next(step for step in row if step * factor >= ahead)
        row.append(ahead + least)
    return row


def sums_by_total(factor, most):
    """Every falling list by the words of point 3 that comes to no more than `most`, by what it comes to."""
    row = [step for step in row_by_words(factor, most + 1) if step <= most]
    found = {total: [] for total in range(most + 1)}
    begun = [[]]
    while begun:
        parts = begun.pop()
        found[sum(parts)].append(parts)
        for step in row:
            if (not parts or parts[-1] > factor * step) and sum(parts) + step <= most:
                begun.append([*parts, step])
    return found


def steps_past(factor, most):
    """As row_by_words, up to a step beyond `most`, and without looking through the whole row for each."""
    row = [1]
    at = 0
    while row[-1] <= most:
        while row[at] * factor < row[-1]:
            at += 1
        row.append(row[-1] + row[at])
    return dict.fromkeys(row)


def is_sum_by_words(factor, heap, parts, steps):
    """Whether the list is a sum by the words of point 3, of these steps, that comes to the heap."""
    falling = all(part > factor * below for part, below in zip(parts, parts[1:]))
    return falling and all(part in steps for part in parts) and sum(parts) == heap


def winners(factor, heaps):
    """Who is to take can win: found by trying all takings, by heap and limit, up to `heaps`.

    A limit beyond the heap is the same as the heap, so the limits of a heap go no further.
    """
    can_win = {}
    for heap in range(heaps + 1):
        for limit in range(heap + 1):
            can_win[heap, limit] = any(
                not can_win[heap - taking, min(factor * taking, heap - taking)] for taking in range(1, limit + 1))
    return can_win


class Unfriendly:
    """Fails at whatever it is asked, but for its class."""

    __hash__ = None

    def _fail(self, *rest):
        raise RuntimeError("nobody may ask this")

    __eq__ = __ne__ = __lt__ = __le__ = __gt__ = __ge__ = _fail
    __bool__ = __len__ = __iter__ = __int__ = __index__ = _fail
    __add__ = __radd__ = __mul__ = __rmul__ = __getitem__ = _fail
    __str__ = __repr__ = _fail


class Posing:
    """Says that it is an integer or a list, and is neither."""

    def __init__(self, posed):
        self.posed = posed

    @property
    def __class__(self):
        return self.posed


class SlyNumber(int):
    """Made from an integer, and fails where it is compared."""

    def _fail(self, *rest):
        raise RuntimeError("nobody may compare this")

    __lt__ = __le__ = __gt__ = __ge__ = _fail


class SlyList(list):
    """Made from a list, and fails where it is gone over."""

    def __iter__(self):
        raise RuntimeError("nobody may go over this")


class Named(IntEnum):
    TWO = 2


def no_numbers():
    """Things that are no whole numbers, new at each call; many would pass for 0, 1, 2 or 3."""
    return [True, False, None, "", "2", "two", b"2", [], [2], (), (2,), {}, {2: 2}, {2}, frozenset([2]),
            2.0, 1.5, float("nan"), float("inf"), 2j, Fraction(2), Decimal(2), range(3), object(),
            int, len, lambda: 2, iter([2]), Ellipsis, NotImplemented, ValueError("2"),
            Unfriendly(), Unfriendly, Posing(int), SlyNumber(2), Named.TWO]


def no_lists():
    """Things that are no lists, new at each call; many hold what would be a sum."""
    return [True, False, None, 0, 1, 2, -1, "", "1", "21", b"", b"\x01", (), (1,), (5, 2), {}, {5: 2}, set(), {1},
            1.0, Fraction(1), range(1, 2), iter([1]), (part for part in [1]), {1: 1}.keys(), object(), list, sum,
            Ellipsis, Unfriendly(), Posing(list), SlyList([1])]


def no_factors():
    """Whatever is no factor, new at each call."""
    return [0, -1, -2, -30, 31, 32, 1000, 10 ** 50, -10 ** 50] + no_numbers()


def no_heaps():
    """Whatever is no heap, and no limit, new at each call."""
    return [-1, -2, -10 ** 50] + no_numbers()


def assert_refused(test, refusal, function, *given):
    """The call raises just this refusal: a TakeError, a ValueError, none of the other five."""
    try:
        answer = function(*given)
    except Exception as error:  # whatever else is raised is a finding too
        test.assertIs(type(error), refusal)
        test.assertIsInstance(error, errors.TakeError)
        test.assertIsInstance(error, ValueError)
        others = [other for other in REFUSALS if other is not refusal]
        test.assertFalse(isinstance(error, tuple(others)))
    else:
        test.fail(f"{function.__name__} answered {answer!r}, {refusal.__name__} was due")
