"""How far the receiver can have been, and what is shown of a single source."""
