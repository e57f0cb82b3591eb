"""The ledger: readings, and what they said at earlier times."""
