"""The checks that several parts of the program need: of numbers, factors, heaps and takings."""

from takeagain.errors import BadFactor, BadHeap

GREATEST_FACTOR = 30


def is_whole(value, least):
    """Tell whether the value is a whole number from `least` on."""
    # isinstance would let True and False pass, and things that only pose as numbers,
    # whose own comparisons could raise errors that are no refusal.
    return type(value) is int and value >= least


def is_whole_list(numbers, least):
    """Tell whether the numbers are a list of whole numbers from `least` on."""
    if type(numbers) is not list:
        return False
    return all(is_whole(number, least) for number in numbers)


def is_taking(heap, limit, taking):
    """Tell whether so many can be taken from the heap within the limit."""
    return is_whole(taking, 1) and taking <= heap and taking <= limit


def check_factor(factor):
    """Refuse what is no factor."""
    if not is_whole(factor, 1) or factor > GREATEST_FACTOR:
        raise BadFactor("a factor is a whole number from 1 to 30")


def check_heap(heap):
    """Refuse what is no heap."""
    if not is_whole(heap, 0):
        raise BadHeap("a heap is a whole number from 0 on")
