"""The judge of papers: steps of blame and trees."""
