"""The errors of parameters: each check returns nothing, or raises the error of its parameter."""

from skipstops.errors import InvalidAmounts, InvalidCount, InvalidIndex, InvalidRing, InvalidStops
from skipstops.errors import InvalidTable, InvalidTables, InvalidTrip, TooLarge
from skipstops.kinds import is_integer, is_integer_list, makes_count, makes_ring, makes_stops, makes_table

MOST_TABLES = 6


def check_count(count):
    """InvalidCount unless it is a number of places."""
    if not makes_count(count):
        raise InvalidCount("a count must be an integer from 1 to 30")


def check_table(table):
    """InvalidTable unless it is a table."""
    if not makes_table(table):
        raise InvalidTable("a table must be a list of equally long lists of distances, the same both ways")


def check_tables(tables):
    """InvalidTables unless they are 1 to 6 tables of one number of places."""
    if type(tables) is not list or not 1 <= len(tables) <= MOST_TABLES:
        raise InvalidTables("tables must be a list of 1 to 6 tables")
    if not all([makes_table(table) for table in tables]):
        raise InvalidTables("each of the tables must be a table")
    if any([len(table) != len(tables[0]) for table in tables]):
        raise InvalidTables("tables must be of one number of places")


def check_ring(ring, count):
    """InvalidRing unless it is a ring of so many places."""
    if not makes_ring(count, ring):
        raise InvalidRing("a ring must be a list of all places, each once")


def check_any_ring(ring):
    """InvalidRing unless it is a ring of 1 to 30 places."""
    if type(ring) is not list or not makes_count(len(ring)):
        raise InvalidRing("a ring must be a list of 1 to 30 places")
    check_ring(ring, len(ring))


def check_stops(stops, count):
    """InvalidStops unless they are one or more different ones of so many places."""
    if not makes_stops(count, stops):
        raise InvalidStops("stops must be a list of one or more different places")


def check_trip(trip, count):
    """InvalidTrip unless it is a trip through some of so many places."""
    if not makes_stops(count, trip):
        raise InvalidTrip("a trip must be a list of one or more different places")


def check_index(index):
    """InvalidIndex unless it is an integer from 0 on; whether it is too great is another question."""
    if not is_integer(index) or index < 0:
        raise InvalidIndex("an index must be an integer from 0 on")


def check_amounts(amounts, count):
    """InvalidAmounts unless they are an integer for each of so many places."""
    if not is_integer_list(amounts) or len(amounts) != count:
        raise InvalidAmounts("amounts must be a list with an integer for each place")


def check_size(many, limit):
    """TooLarge if there are more than the limit."""
    if many > limit:
        raise TooLarge(limit)
