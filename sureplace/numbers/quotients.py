"""Quotients of integers, rounded up."""


def quotient_up(number, by):
    """The least integer that is not below number / by; by is above 0."""
    return -(-number // by)
