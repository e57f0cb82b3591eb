"""Searching: known things, cells that are out, and witnesses, by fixed rules."""
