"""Standing questions: what is offered for them is judged, and judged again after each write."""
