"""Tools that make papers of papers, describe them, and send them as texts."""
