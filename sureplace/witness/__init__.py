"""Witnesses: that the receiver can have been in a box."""
