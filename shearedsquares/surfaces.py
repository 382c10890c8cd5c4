"""Surfaces glued of squares: their corners, rows and names, and what a move makes of them."""

SHEARED = 0
SHEARED_BACK = 1
TURNED = 2


class Surface:
    """Squares as they are glued. It never changes: a move makes another one."""

    def __init__(self, east, north):
        self.east = east
        self.north = north
        self.west = backwards(east)
        self.south = backwards(north)


def backwards(steps):
    """For each square the one whose step leads to it; steps tell each square once."""
    back = [0] * len(steps)
    for square, there in enumerate(steps):
        back[there] = square
    return back


def round_from(first, steps):
    """The squares that come from the first one, till it comes again."""
    squares = [first]
    there = steps[first]
    while there != first:
        squares.append(there)
        there = steps[there]
    return squares


def round_lengths(steps):
    """How long each round is, by its least square."""
    lengths = []
    for square in range(len(steps)):
        squares = round_from(square, steps)
        # Each round comes up once for each of its squares: only its least one counts.
        if min(squares) == square:
            lengths.append(len(squares))
    return lengths


def once_round(surface):
    """For each square the one that comes by going once round its corner in the north east."""
    return [surface.south[surface.west[surface.north[there]]] for there in surface.east]


def corner_lengths(surface):
    return round_lengths(once_round(surface))


def count_holes(surface):
    return (len(surface.east) - len(corner_lengths(surface))) // 2 + 1


def order_from(square, surface):
    """All squares that hang together with this one, eastern ones ahead of northern ones."""
    order = [square]
    turn = 0
    while turn < len(order):
        for there in (surface.east[order[turn]], surface.north[order[turn]]):
            if there not in order:
                order.append(there)
        turn += 1
    return order


def hangs_together(surface):
    return len(order_from(0, surface)) == len(surface.east)


def renamed(order, surface):
    """The eastern ones, then the northern ones, with the first square of the order called 0, and so on."""
    called = backwards(order)
    east = [called[surface.east[square]] for square in order]
    north = [called[surface.north[square]] for square in order]
    return east + north


def all_renamed(surface):
    """What the surface is renamed to by the order from each square."""
    return [renamed(order_from(square, surface), surface) for square in range(len(surface.east))]


def name_of(surface):
    return min(all_renamed(surface))


def count_selves(surface):
    tables = all_renamed(surface)
    return tables.count(tables[0])


def moved(move, surface):
    if move == SHEARED:
        return Surface(surface.east, [surface.north[there] for there in surface.west])
    if move == SHEARED_BACK:
        return Surface(surface.east, [surface.north[there] for there in surface.east])
    return Surface(surface.south, surface.east)


def all_moved(moves, surface):
    for move in moves:
        surface = moved(move, surface)
    return surface


def same_but_for_names(surface, other):
    return name_of(surface) == name_of(other)
