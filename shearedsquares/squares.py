"""The calls on one surface of squares: a list of calls goes in, a list of answers comes out."""

from shearedsquares.orbits import count_less, has_too_many, orbit_of, wheel_length, wheel_lengths
from shearedsquares.surfaces import SHEARED, TURNED, Surface, all_moved, corner_lengths, count_holes, count_selves
from shearedsquares.surfaces import hangs_together, name_of, round_lengths, same_but_for_names

BEGIN = 0
GLUE = 1
CORNERS = 2
HOLES = 3
ROWS = 4
NAME = 5
SELVES = 6
STATE = 7
DO = 8
ORBIT = 9
WHEELS = 10
WHEEL = 11
WAY = 12
REACHES = 13
LEAST = 14
PLACE = 15
FIXES = 16

NOT_BEGUN = -11
NOT_RIGHT = -22
NOT_TOGETHER = -33
NO_WAY = -34
TOO_MANY = -75

MOST_SQUARES = 6
MOST_MOVES = 30


class Board:
    """What the calls of one list are asked of: a surface, or None before a begin."""

    def __init__(self):
        self.surface = None


class Reader:
    """Goes through the numbers handed in, which it only reads."""

    def __init__(self, numbers):
        self.numbers = numbers
        self.place = 0

    def ended(self):
        return self.place >= len(self.numbers)

    def read_number(self):
        number = self.numbers[self.place]
        self.place += 1
        return number

    def read_row(self):
        length = self.read_number()
        row = self.numbers[self.place:self.place + length]
        self.place += length
        return row


def tells_all_once(row, count):
    return sorted(row) == list(range(count))


def refusal_of_tables(east, north, count):
    """The refusal that is due of these tables for so many squares, or 0 if they can be glued so."""
    if not tells_all_once(east, count) or not tells_all_once(north, count):
        return NOT_RIGHT
    if not hangs_together(Surface(east, north)):
        return NOT_TOGETHER
    return 0


def are_moves(row):
    return len(row) <= MOST_MOVES and max(row, default=SHEARED) <= TURNED


def counted(numbers):
    return [len(numbers)] + numbers


def begin(board, count):
    if count < 1 or count > MOST_SQUARES:
        return [NOT_RIGHT]
    squares = list(range(count))
    board.surface = Surface(squares[1:] + [0], squares)
    return [0]


def glue(board, east, north):
    refusal = refusal_of_tables(east, north, len(board.surface.east))
    if refusal != 0:
        return [refusal]
    board.surface = Surface(east, north)
    return [len(corner_lengths(board.surface))]


def do_moves(board, moves):
    if not are_moves(moves):
        return [NOT_RIGHT]
    board.surface = all_moved(moves, board.surface)
    return [len(moves)]


def tell_if_fixed(surface, moves):
    if not are_moves(moves):
        return [NOT_RIGHT]
    return [1 if same_but_for_names(surface, all_moved(moves, surface)) else 0]


def tell_of_orbit(surface, number):
    """What a call answers of all that come of the surface."""
    orbit = orbit_of(surface)
    if has_too_many(orbit):
        return [TOO_MANY]
    if number == WHEELS:
        return counted(wheel_lengths(orbit))
    if number == LEAST:
        return counted(min(orbit.names))
    if number == PLACE:
        return [count_less(orbit)]
    return [len(orbit.names)]


def tell_of_another(surface, number, east, north):
    """What reaches or way answers of the one that these tables tell."""
    refusal = refusal_of_tables(east, north, len(surface.east))
    if refusal != 0:
        return [refusal]
    orbit = orbit_of(surface)
    if has_too_many(orbit):
        return [TOO_MANY]
    name = name_of(Surface(east, north))
    if number == REACHES:
        return [1 if name in orbit.names else 0]
    if name not in orbit.names:
        return [NO_WAY]
    return counted(orbit.ways[orbit.names.index(name)])


def tell(surface, number):
    """What a call answers that is given nothing and looks at the surface, or at few that come of it."""
    if number == CORNERS:
        return counted(corner_lengths(surface))
    if number == HOLES:
        return [count_holes(surface)]
    if number == ROWS:
        return counted(round_lengths(surface.east))
    if number == NAME:
        return counted(name_of(surface))
    if number == SELVES:
        return [count_selves(surface)]
    if number == STATE:
        return [len(surface.east)] + surface.east + surface.north
    if number == WHEEL:
        return [wheel_length(surface)]
    return tell_if_fixed(surface, [TURNED, TURNED])


def count_rows(number):
    """How many rows this call is given."""
    if number in (GLUE, WAY, REACHES):
        return 2
    if number in (DO, FIXES):
        return 1
    return 0


def answer_next(board, reader):
    number = reader.read_number()
    if number == BEGIN:
        return begin(board, reader.read_number())
    # A refused call's rows are read too: the next call stands behind them.
    rows = [reader.read_row() for turn in range(count_rows(number))]
    if board.surface is None:
        return [NOT_BEGUN]
    if number == GLUE:
        return glue(board, rows[0], rows[1])
    if number == DO:
        return do_moves(board, rows[0])
    if number == FIXES:
        return tell_if_fixed(board.surface, rows[0])
    if number in (WAY, REACHES):
        return tell_of_another(board.surface, number, rows[0], rows[1])
    if number in (ORBIT, WHEELS, LEAST, PLACE):
        return tell_of_orbit(board.surface, number)
    return tell(board.surface, number)


def answers(calls):
    """For each call, in order, how many numbers are answered, then these."""
    board = Board()
    reader = Reader(calls)
    told = []
    while not reader.ended():
        answer = answer_next(board, reader)
        told.append(len(answer))
        told.extend(answer)
    return told
