"""Surfaces glued of squares: a list of calls goes in, a list of answers comes out."""

BEGIN = 0
GLUE = 1
CORNERS = 2
HOLES = 3
ROWS = 4
NAME = 5
SELVES = 6
STATE = 7
DO = 8
WAY = 12
REACHES = 13
FIXES = 16

NOT_BEGUN = -11
NOT_RIGHT = -22
NOT_TOGETHER = -33

SHEARED = 0
SHEARED_BACK = 1
TURNED = 2

MOST_SQUARES = 6
MOST_MOVES = 30


class Surface:
    """Squares as they are glued. It never changes: a move makes another one."""

    def __init__(self, east, north):
        self.east = east
        self.north = north
        self.west = backwards(east)
        self.south = backwards(north)


class Board:
    """What the calls of one list are asked of: a surface, or None before a begin."""

    def __init__(self):
        self.surface = None


class Reader:
    """Goes through the numbers handed in, which it only reads."""

    def __init__(self, numbers):
        self.numbers = numbers
        self.place = 0

    def ended(self):
        return self.place >= len(self.numbers)

    def read_number(self):
        number = self.numbers[self.place]
        self.place += 1
        return number

    def read_row(self):
        length = self.read_number()
        row = self.numbers[self.place:self.place + length]
        self.place += length
        return row


def backwards(steps):
    """For each square the one whose step leads to it; steps tell each square once."""
    back = [0] * len(steps)
    for square, there in enumerate(steps):
        back[there] = square
    return back


def round_from(first, steps):
    """The squares that come from the first one, till it comes again."""
    squares = [first]
    there = steps[first]
    while there != first:
        squares.append(there)
        there = steps[there]
    return squares


def round_lengths(steps):
    """How long each round is, by its least square."""
    lengths = []
    for square in range(len(steps)):
        squares = round_from(square, steps)
        # Each round comes up once for each of its squares: only its least one counts.
        if min(squares) == square:
            lengths.append(len(squares))
    return lengths


def once_round(surface):
    """For each square the one that comes by going once round its corner in the north east."""
    return [surface.south[surface.west[surface.north[there]]] for there in surface.east]


def corner_lengths(surface):
    return round_lengths(once_round(surface))


def count_holes(surface):
    return (len(surface.east) - len(corner_lengths(surface))) // 2 + 1


def order_from(square, surface):
    """All squares that hang together with this one, eastern ones ahead of northern ones."""
    order = [square]
    turn = 0
    while turn < len(order):
        for there in (surface.east[order[turn]], surface.north[order[turn]]):
            if there not in order:
                order.append(there)
        turn += 1
    return order


def hangs_together(surface):
    return len(order_from(0, surface)) == len(surface.east)


def renamed(order, surface):
    """The eastern ones, then the northern ones, with the first square of the order called 0, and so on."""
    called = backwards(order)
    east = [called[surface.east[square]] for square in order]
    north = [called[surface.north[square]] for square in order]
    return east + north


def all_renamed(surface):
    """What the surface is renamed to by the order from each square."""
    return [renamed(order_from(square, surface), surface) for square in range(len(surface.east))]


def name_of(surface):
    return min(all_renamed(surface))


def count_selves(surface):
    tables = all_renamed(surface)
    return tables.count(tables[0])


def moved(move, surface):
    if move == SHEARED:
        return Surface(surface.east, [surface.north[there] for there in surface.west])
    if move == SHEARED_BACK:
        return Surface(surface.east, [surface.north[there] for there in surface.east])
    return Surface(surface.south, surface.east)


def all_moved(moves, surface):
    for move in moves:
        surface = moved(move, surface)
    return surface


def tells_all_once(row, count):
    return sorted(row) == list(range(count))


def refusal_of_tables(east, north, count):
    """The refusal that is due of these tables for so many squares, or 0 if they can be glued so."""
    if not tells_all_once(east, count) or not tells_all_once(north, count):
        return NOT_RIGHT
    if not hangs_together(Surface(east, north)):
        return NOT_TOGETHER
    return 0


def are_moves(row):
    return len(row) <= MOST_MOVES and max(row, default=SHEARED) <= TURNED


def begin(board, count):
    if count < 1 or count > MOST_SQUARES:
        return [NOT_RIGHT]
    squares = list(range(count))
    board.surface = Surface(squares[1:] + [0], squares)
    return [0]


def glue(board, east, north):
    refusal = refusal_of_tables(east, north, len(board.surface.east))
    if refusal != 0:
        return [refusal]
    board.surface = Surface(east, north)
    return [len(corner_lengths(board.surface))]


def do_moves(board, moves):
    if not are_moves(moves):
        return [NOT_RIGHT]
    board.surface = all_moved(moves, board.surface)
    return [len(moves)]


def counted(numbers):
    return [len(numbers)] + numbers


def tell(surface, number):
    """What a call answers that is given nothing and changes nothing."""
    if number == CORNERS:
        return counted(corner_lengths(surface))
    if number == HOLES:
        return [count_holes(surface)]
    if number == ROWS:
        return counted(round_lengths(surface.east))
    if number == NAME:
        return counted(name_of(surface))
    if number == SELVES:
        return [count_selves(surface)]
    if number == STATE:
        return [len(surface.east)] + surface.east + surface.north
    # No answer is better than a wrong one.
    raise NotImplementedError(f"call {number} is not built yet")


def count_rows(number):
    """How many rows this call is given."""
    if number in (GLUE, WAY, REACHES):
        return 2
    if number in (DO, FIXES):
        return 1
    return 0


def answer_next(board, reader):
    number = reader.read_number()
    if number == BEGIN:
        return begin(board, reader.read_number())
    # A refused call's rows are read too: the next call stands behind them.
    rows = [reader.read_row() for turn in range(count_rows(number))]
    if board.surface is None:
        return [NOT_BEGUN]
    if number == GLUE:
        return glue(board, rows[0], rows[1])
    if number == DO:
        return do_moves(board, rows[0])
    return tell(board.surface, number)


def answers(calls):
    """For each call, in order, how many numbers are answered, then these."""
    board = Board()
    reader = Reader(calls)
    told = []
    while not reader.ended():
        answer = answer_next(board, reader)
        told.append(len(answer))
        told.extend(answer)
    return told
