"""The kinds of readings: their spans, and what readings exclude."""
