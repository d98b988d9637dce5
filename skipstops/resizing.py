"""Tables and rings with a place more or less, for values that are known to be right."""


def with_place(table, row):
    """The table with the next number, which has the distances of the row to the others."""
    return [distances + [more] for distances, more in zip(table, row)] + [row + [0]]


def without_place(table, place):
    """The table without a place, each greater number being one less."""
    kept = [one for one in range(len(table)) if one != place]
    return [[table[one][other] for other in kept] for one in kept]


def ring_without_place(ring, place):
    """The ring without a place, each greater number being one less."""
    return [one - 1 if one > place else one for one in ring if one != place]
