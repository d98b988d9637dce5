"""The errors of parameters: each check returns nothing, or raises the error of its parameter."""

from skipstops.errors import InvalidAmounts, InvalidCount, InvalidIndex, InvalidNumber, InvalidPlace, InvalidPrizes
from skipstops.errors import InvalidRing, InvalidRow, InvalidSequence, InvalidStops, InvalidTable, InvalidTables
from skipstops.errors import InvalidTrip, LastPlace, NoTable, TooLarge
from skipstops.kinds import is_integer, is_integer_list, makes_count, makes_distance, makes_group, makes_place
from skipstops.kinds import makes_ring, makes_row, makes_stops, makes_table

MOST_TABLES = 6


def check_count(count):
    """InvalidCount unless it is a number of places."""
    if not makes_count(count):
        raise InvalidCount("a count must be an integer from 1 to 30")


def check_table(table):
    """InvalidTable unless it is a table."""
    if not makes_table(table):
        raise InvalidTable("a table must be a list of equally long lists of distances, the same both ways")


def check_tables(tables):
    """InvalidTables unless they are 1 to 6 tables of one number of places."""
    if type(tables) is not list or not 1 <= len(tables) <= MOST_TABLES:
        raise InvalidTables("tables must be a list of 1 to 6 tables")
    if not all([makes_table(table) for table in tables]):
        raise InvalidTables("each of the tables must be a table")
    if any([len(table) != len(tables[0]) for table in tables]):
        raise InvalidTables("tables must be of one number of places")


def check_ring(ring, count):
    """InvalidRing unless it is a ring of so many places."""
    if not makes_ring(count, ring):
        raise InvalidRing("a ring must be a list of all places, each once")


def check_any_ring(ring):
    """InvalidRing unless it is a ring of 1 to 30 places."""
    if type(ring) is not list or not makes_count(len(ring)):
        raise InvalidRing("a ring must be a list of 1 to 30 places")
    check_ring(ring, len(ring))


def check_stops(stops, count):
    """InvalidStops unless they are one or more different ones of so many places."""
    if not makes_stops(count, stops):
        raise InvalidStops("stops must be a list of one or more different places")


def check_trip(trip, count):
    """InvalidTrip unless it is a trip through some of so many places."""
    if not makes_stops(count, trip):
        raise InvalidTrip("a trip must be a list of one or more different places")


def check_place(place, count):
    """InvalidPlace unless it is one of so many places."""
    if not makes_place(count, place):
        raise InvalidPlace("a place must be an integer from 0 on, less than the number of places")


def check_two_places(one, other, count):
    """InvalidPlace unless they are two different ones of so many places."""
    check_place(one, count)
    check_place(other, count)
    if other == one:
        raise InvalidPlace("the other place must be another one")


def check_group(group, depot, count):
    """InvalidStops unless they are different ones of so many places without the depot, perhaps none."""
    if not makes_group(count, depot, group):
        raise InvalidStops("a group must be a list of different places without the depot")


def check_sequence(sequence, depot, count):
    """InvalidSequence unless they are all of so many places but the depot, each once."""
    if not makes_group(count, depot, sequence) or len(sequence) != count - 1:
        raise InvalidSequence("a sequence must be a list of all places but the depot, each once")


def check_many(many, count):
    """InvalidNumber unless it is an integer from 1 to the number of the places."""
    if not is_integer(many) or not 1 <= many <= count:
        raise InvalidNumber("there must be an integer from 1 to the number of places")


def check_length(length):
    """InvalidNumber unless it is an integer from 0 on."""
    if not is_integer(length) or length < 0:
        raise InvalidNumber("a length must be an integer from 0 on")


def check_distance(distance):
    """InvalidNumber unless it is an integer from 0 to 10 ** 30."""
    if not makes_distance(distance):
        raise InvalidNumber("a distance must be an integer from 0 to 10 ** 30")


def check_prizes(prizes, count):
    """InvalidPrizes unless they are an integer from 0 to 10 ** 30 for each of so many places."""
    if not makes_row(count, prizes):
        raise InvalidPrizes("prizes must be a list with an integer from 0 to 10 ** 30 for each place")


def check_row(row, count):
    """InvalidRow unless it is a distance to each of so many places."""
    if not makes_row(count, row):
        raise InvalidRow("a row must be a list with an integer from 0 to 10 ** 30 for each place")


def check_index(index):
    """InvalidIndex unless it is an integer from 0 on; whether it is too great is another question."""
    if not is_integer(index) or index < 0:
        raise InvalidIndex("an index must be an integer from 0 on")


def check_spot(index, count):
    """InvalidIndex unless it is an index of a ring of so many places."""
    if not makes_place(count, index):
        raise InvalidIndex("an index must be one of the ring")


def check_amounts(amounts, count):
    """InvalidAmounts unless they are an integer for each of so many places."""
    if not is_integer_list(amounts) or len(amounts) != count:
        raise InvalidAmounts("amounts must be a list with an integer for each place")


def check_size(many, limit):
    """TooLarge if there are more than the limit."""
    if many > limit:
        raise TooLarge(limit)


def check_not_last(count):
    """LastPlace if there is only one place."""
    if count == 1:
        raise LastPlace("the only place cannot be taken away")


def check_distances(table):
    """NoTable unless each distance of what would be a table is from 0 to 10 ** 30."""
    if not all([makes_distance(distance) for row in table for distance in row]):
        raise NoTable("a distance must be from 0 to 10 ** 30")
