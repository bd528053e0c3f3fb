"""Steps by a factor, and the sums of unlike steps that tell every number."""

from takeagain.checks import check_factor, check_heap, is_whole, is_whole_list
from takeagain.errors import BadNumber, BadSum

GREATEST_NUMBER = 3000


def step_by(factor, number):
    """Return the step with this number, counted from 0."""
    check_factor(factor)
    check_number(number)
    row = [1]
    place = 0
    for _ in range(number):
        place = add_step(factor, row, place)
    return row[-1]


def sum_of(factor, heap):
    """Return the one sum by the factor that comes to the heap, as a new list."""
    check_factor(factor)
    check_heap(heap)
    parts = []
    left = heap
    # What is left below a step is less than the step that the next one in the row adds to it.
    # So the greatest step that fits is always far enough below the part ahead of it.
    for step in reversed(row_past(factor, heap)):
        if step <= left:
            parts.append(step)
            left -= step
    return parts


def whole(factor, parts):
    """Return what the parts of a sum by the factor come to."""
    check_factor(factor)
    check_whole_parts(parts)
    total = sum(parts)
    # Just one sum comes to a number, so the parts are a sum only if they are that one.
    if parts != sum_of(factor, total):
        raise BadSum("these parts are no sum by the factor")
    return total


def add_step(factor, row, place):
    """Add the next step to the row, and return the place of the step that went into it.

    `place` is what the call ahead of this one returned, 0 at first. The search goes on
    from there: as the row rises, what was too small then is too small for good.
    """
    while factor * row[place] < row[-1]:
        place += 1
    row.append(row[-1] + row[place])
    return place


def row_past(factor, heap):
    """Return the steps from step 0 on, up to the first one that is more than the heap."""
    row = [1]
    place = 0
    while row[-1] <= heap:
        place = add_step(factor, row, place)
    return row


def check_number(number):
    """Refuse what is no number of a step."""
    if not is_whole(number, 0) or number > GREATEST_NUMBER:
        raise BadNumber("a step's number is a whole number from 0 to 3000")


def check_whole_parts(parts):
    """Refuse what is no list of whole numbers from 1 on."""
    if not is_whole_list(parts, 1):
        raise BadSum("a sum is a list of whole numbers from 1 on")
