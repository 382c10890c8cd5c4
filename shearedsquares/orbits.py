"""All that come of a surface by moves: their names, the ways to them, and the wheels they fall into."""

from shearedsquares.surfaces import SHEARED, SHEARED_BACK, TURNED, moved, name_of, round_lengths

MOST_NAMES = 120


class Orbit:
    """The names that come of a surface, its own first; at the same place a surface of each, and the way to it."""

    def __init__(self, surface):
        self.names = [name_of(surface)]
        self.surfaces = [surface]
        self.ways = [[]]


def has_too_many(orbit):
    return len(orbit.names) > MOST_NAMES


def add_moved(orbit, turn):
    """Adds what comes by one move of the one at this place, if it didn't come yet."""
    for move in (SHEARED, SHEARED_BACK, TURNED):
        there = moved(move, orbit.surfaces[turn])
        name = name_of(there)
        if name not in orbit.names:
            orbit.names.append(name)
            orbit.surfaces.append(there)
            orbit.ways.append(orbit.ways[turn] + [move])


def orbit_of(surface):
    """All that come of a surface, or, if these are too many, so many of them that it shows.

    They are gone through in the order in which they came, with the lesser move ahead: so the way by which one comes
    first has the fewest moves, and of as few the lesser one where two first differ.
    """
    orbit = Orbit(surface)
    turn = 0
    while turn < len(orbit.names) and not has_too_many(orbit):
        add_moved(orbit, turn)
        turn += 1
    return orbit


def count_less(orbit):
    """How many of the names are less than the surface's own."""
    return len([name for name in orbit.names if name < orbit.names[0]])


def wheel_lengths(orbit):
    """How many names each wheel has, rising; the orbit must be whole."""
    steps = [orbit.names.index(name_of(moved(SHEARED, surface))) for surface in orbit.surfaces]
    return sorted(round_lengths(steps))


def wheel_length(surface):
    """How many names come by shears alone, till the first one comes again."""
    first = name_of(surface)
    there = moved(SHEARED, surface)
    length = 1
    while name_of(there) != first:
        there = moved(SHEARED, there)
        length += 1
    return length
