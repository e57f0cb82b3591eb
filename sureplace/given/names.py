"""Names of sources."""

SIGNS = "abcdefghijklmnopqrstuvwxyz0123456789_-"
LONGEST = 64


def is_name(text):
    """Tell whether the text is a name: 1 to 64 small letters, digits, underscores and hyphens."""
    return 1 <= len(text) <= LONGEST and all([sign in SIGNS for sign in text])
