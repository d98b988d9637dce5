"""Which values are of the kinds that the functions take. Every value may be asked."""

LARGEST = 10 ** 30
MOST_PLACES = 30


def is_integer(value):
    """Whether a value is an integer; True and False are none."""
    return isinstance(value, int) and not isinstance(value, bool)


def _are_integers(items):
    """Whether some items are integers alone."""
    # Nearly always they are plain ones, and then nothing else is asked.
    others = [item for item in items if type(item) is not int]
    return all([is_integer(item) for item in others])


def is_integer_list(value):
    """Whether a value is a list of integers alone."""
    return type(value) is list and _are_integers(value)


def is_integer_tuple(value):
    """Whether a value is a tuple of integers alone."""
    return type(value) is tuple and _are_integers(value)


def makes_count(value):
    """Whether a value is a number of places."""
    return is_integer(value) and 1 <= value <= MOST_PLACES


def makes_place(count, value):
    """Whether a value is one of so many places."""
    return is_integer(value) and 0 <= value < count


def makes_distance(value):
    """Whether a value is an integer from 0 to the greatest distance."""
    return is_integer(value) and 0 <= value <= LARGEST


def makes_row(count, value):
    """Whether a value is a list with an integer from 0 to the greatest distance for each of so many places."""
    return is_integer_list(value) and len(value) == count and min(value) >= 0 and max(value) <= LARGEST


def makes_table(value):
    """Whether a value is a table."""
    if type(value) is not list or not makes_count(len(value)):
        return False
    count = len(value)
    if not all([type(row) is list and len(row) == count for row in value]):
        return False
    others = [item for row in value for item in row if type(item) is not int]
    if others and not _are_integers(others):
        return False
    if any([row[place] != 0 for place, row in enumerate(value)]):
        return False
    if [list(column) for column in zip(*value)] != value:
        return False
    # What is the same both ways needs to be looked at only one way.
    return not [item for place, row in enumerate(value) for item in row[:place] if item < 0 or item > LARGEST]


def makes_stops(count, value):
    """Whether a value is a list of one or more different ones of so many places."""
    if not is_integer_list(value) or not value:
        return False
    return len(set(value)) == len(value) and min(value) >= 0 and max(value) < count


def makes_ring(count, value):
    """Whether a value is a ring of so many places."""
    return makes_stops(count, value) and len(value) == count


def makes_group(count, depot, value):
    """Whether a value is a list of different ones of so many places without the depot, perhaps empty."""
    if type(value) is not list:
        return False
    return not value or (makes_stops(count, value) and depot not in value)


def makes_pairs(stops, value):
    """Whether a value is an ascending list of tuples of two places, the lesser one first, each stop in exactly one."""
    if type(value) is not list or not all([is_integer_tuple(pair) and len(pair) == 2 for pair in value]):
        return False
    if sorted([place for pair in value for place in pair]) != sorted(stops):
        return False
    return all([one < other for one, other in value]) and value == sorted(value)


def makes_fraction(value):
    """Whether a value is a tuple of two integers, the second one from 1 on."""
    return is_integer_tuple(value) and len(value) == 2 and value[1] >= 1
