"""The bounds of numbers that are given."""

LIMIT = 10 ** 12
# For what is offered, and for what is read from texts.
VAST = 10 ** 18


def all_within(numbers, low, high):
    """Tell whether each number is from low to high."""
    return all([low <= number <= high for number in numbers])


def ascending(numbers):
    """Tell whether each number is greater than the one before."""
    return all([number < after for number, after in zip(numbers, numbers[1:])])


def sides_within(sides, limit):
    """Tell whether each side goes upwards, and from -limit to limit at most."""
    return all([-limit <= low <= high <= limit for low, high in sides])
