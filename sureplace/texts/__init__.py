"""Texts: words of things, and receivers that are saved and loaded."""
