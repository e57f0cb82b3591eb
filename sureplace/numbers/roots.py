"""Roots of integers, rounded down and up."""

from math import isqrt


def root_down(number):
    """The greatest integer whose square is at most the number."""
    return isqrt(number)


def root_up(number):
    """The least integer, not below 0, whose square is at least the number."""
    root = isqrt(number)
    if root * root < number:
        return root + 1
    return root
