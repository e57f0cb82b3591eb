"""Who lies: makers of steps of blame and of papers."""
