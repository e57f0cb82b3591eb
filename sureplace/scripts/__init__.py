"""Scripts: deeds for a receiver, written as lines."""
