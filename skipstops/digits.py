"""Numbers as texts."""

MOST_DIGITS = 60


def number_of(word):
    """The number with a text, None if there is none."""
    # Other signs than these ten are digits, too, for isdigit alone.
    if not word.isascii() or not word.isdigit() or len(word) > MOST_DIGITS:
        return None
    if word[0] == "0" and len(word) > 1:
        return None
    return int(word)
