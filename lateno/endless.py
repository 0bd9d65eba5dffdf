"""Numbers among which None is endless: above each number, and so is each sum with it."""


def total_of(numbers):
    """The sum of these, endless if one of them is."""
    return None if None in numbers else sum(numbers)


def greatest_of(numbers):
    """The greatest of these, 0 if there are none."""
    return None if None in numbers else max(numbers, default=0)


def is_at_least(one, other):
    """Whether one is no less than the other."""
    return one is None or (other is not None and one >= other)


def endless_last(number):
    """What numbers are ordered by, the endless one behind all others."""
    return (number is None, 0 if number is None else number)
