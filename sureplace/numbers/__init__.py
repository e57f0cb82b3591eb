"""Roots, boxes and the bounds of numbers."""
