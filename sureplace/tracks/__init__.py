"""Tracks: layers of boxes, and chains through them."""
