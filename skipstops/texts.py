"""Tables, rings and shares as texts, and read from them."""

from skipstops.checks import check_any_ring, check_count, check_table
from skipstops.digits import number_of
from skipstops.errors import InvalidShares, InvalidText
from skipstops.kinds import MOST_PLACES, makes_count, makes_fraction, makes_ring, makes_row
from skipstops.ratios import lowest
from skipstops.resizing import with_place


def show_table(table):
    """The text of a table: a line for each place but the first one, with its distances to all places ahead of it."""
    check_table(table)
    return "\n".join([_spaced(row[:place]) for place, row in enumerate(table) if place > 0])


def show_ring(ring):
    """The text of a ring."""
    check_any_ring(ring)
    return "-".join([str(place) for place in ring])


def show_shares(shares):
    """The text of shares."""
    if type(shares) is not list or not makes_count(len(shares)) or not all([_can_be_shown(share) for share in shares]):
        raise InvalidShares("shares must be a list of 1 to 30 fractions from 0 on")
    return " ".join([_fraction_text(share) for share in shares])


def read_table(text):
    """The table with a text."""
    _check_text(text)
    table = [[0]]
    lines = text.split("\n") if text else []
    for number, line in enumerate(lines):
        row = [number_of(word) for word in line.split(" ")]
        if len(table) == MOST_PLACES or not makes_row(len(table), row):
            raise InvalidText(number)
        table = with_place(table, row)
    return table


def read_ring(count, text):
    """The ring of so many places with a text."""
    check_count(count)
    _check_text(text)
    ring = [number_of(word) for word in text.split("-")]
    if not makes_ring(count, ring):
        raise InvalidText(0)
    return ring


def read_shares(count, text):
    """The list of so many fractions with a text, each without a common divisor."""
    check_count(count)
    _check_text(text)
    shares = [_fraction_of(word) for word in text.split(" ")]
    if len(shares) != count or None in shares:
        raise InvalidText(0)
    return shares


def _check_text(text):
    """InvalidText unless it is a string."""
    if not isinstance(text, str):
        raise InvalidText(None)


def _spaced(numbers):
    """Numbers with single spaces between."""
    return " ".join([str(number) for number in numbers])


def _can_be_shown(share):
    """Whether a value is a fraction from 0 on."""
    return makes_fraction(share) and share[0] >= 0


def _fraction_text(fraction):
    """The text of a fraction from 0 on."""
    top, bottom = lowest(fraction[0], fraction[1])
    return str(top) if bottom == 1 else f"{top}/{bottom}"


def _fraction_of(word):
    """The fraction with a text, None if there is none."""
    top, slash, bottom = word.partition("/")
    fraction = (number_of(top), number_of(bottom) if slash else 1)
    # What reads as a fraction, but is not its text, is the text of none.
    if not makes_fraction(fraction) or _fraction_text(fraction) != word:
        return None
    return fraction
