"""What the tests share: calls by name, and a slow second telling of the document to compare with."""

from functools import lru_cache
from itertools import permutations

from shearedsquares.squares import answers

NUMBERS = {
    "begin": 0, "glue": 1, "corners": 2, "holes": 3, "rows": 4, "name": 5, "selves": 6, "state": 7, "do": 8,
    "orbit": 9, "wheels": 10, "wheel": 11, "way": 12, "reaches": 13, "least": 14, "place": 15, "fixes": 16,
    "halfturn": 17,
}

GREATEST = 4294967295


def told(*calls):
    """The list to hand in: each call is its name, or a tuple of its name, its number or its rows."""
    numbers = []
    for call in calls:
        call = (call,) if isinstance(call, str) else call
        numbers.append(NUMBERS[call[0]])
        for given in call[1:]:
            numbers.extend([len(given)] + list(given) if isinstance(given, (list, tuple)) else [given])
    return numbers


def split(numbers):
    """The answers of the calls, one list each."""
    lists = []
    while numbers:
        count = numbers[0]
        if count < 1 or count >= len(numbers):
            raise AssertionError(f"no such count can stand here: {numbers}")
        lists.append(numbers[1:count + 1])
        numbers = numbers[count + 1:]
    return lists


def ask(*calls):
    lists = split(answers(told(*calls)))
    if len(lists) != len(calls):
        raise AssertionError(f"{len(calls)} calls, {len(lists)} answers")
    return lists


def ask_of(east, north, *calls):
    """The answers of these calls alone, behind the begin and the glue that lead to the tables."""
    return ask(("begin", len(east)), ("glue", east, north), *calls)[2:]


def table(east, north):
    """What state answers of these tables."""
    return [len(east)] + list(east) + list(north)


def step(east, north, square, way):
    if way == 0:
        return east[square]
    if way == 1:
        return north[square]
    return list(east if way == 2 else north).index(square)


def hang_together(east, north):
    reached = {0}
    for turn in east:
        reached |= {step(east, north, square, way) for square in reached for way in range(4)}
    return len(reached) == len(east)


def surfaces(count):
    """All tables of so many squares that hang together."""
    rows = list(permutations(range(count)))
    return [(list(e), list(n)) for e in rows for n in rows if hang_together(e, n)]


def rounds(steps):
    """How long each round of a step is, by its least square."""
    left = list(range(len(steps)))
    lengths = []
    while left:
        square = left[0]
        length = 0
        while square in left:
            left.remove(square)
            length += 1
            square = steps[square]
        lengths.append(length)
    return lengths


def corners(east, north):
    ends = []
    for square in range(len(east)):
        for way in (0, 1, 2, 3):
            square = step(east, north, square, way)
        ends.append(square)
    return rounds(ends)


def carried(new, east, north):
    """The tables once each square is called by its new name."""
    other_east = [0] * len(new)
    other_north = [0] * len(new)
    for square, name in enumerate(new):
        other_east[name] = new[east[square]]
        other_north[name] = new[north[square]]
    return other_east, other_north


def all_carried(east, north):
    """The tables under every choice of names: as many as there are choices."""
    return [carried(new, east, north) for new in permutations(range(len(east)))]


def move(which, east, north):
    squares = range(len(east))
    if which == 0:
        return list(east), [north[step(east, north, s, 2)] for s in squares]
    if which == 1:
        return list(east), [north[step(east, north, s, 0)] for s in squares]
    return [step(east, north, s, 3) for s in squares], [step(east, north, s, 0) for s in squares]


def order(first, east, north):
    """The order from a square."""
    came = [first]
    for turn in range(len(east)):
        came += [east[came[turn]]] if east[came[turn]] not in came else []
        came += [north[came[turn]]] if north[came[turn]] not in came else []
    return came


def told_from(first, east, north):
    """The tables by the order from a square, as one list."""
    came = order(first, east, north)
    new = [came.index(square) for square in range(len(east))]
    return sum(carried(new, east, north), [])


def name(east, north):
    """The name, as one tuple."""
    return tuple(min(told_from(square, east, north) for square in range(len(east))))


def halves(numbers):
    """The eastern ones and the northern ones of a name."""
    count = len(numbers) // 2
    return list(numbers[:count]), list(numbers[count:])


@lru_cache(maxsize=None)
def move_name(which, numbers):
    return name(*move(which, *halves(numbers)))


@lru_cache(maxsize=None)
def ways(numbers):
    """All names that come of one, and the way to each: any way first, and bettered till none gets better."""
    found = {numbers: ()}
    bettered = True
    while bettered:
        bettered = False
        for here in list(found):
            for which in (2, 1, 0):
                there, way = move_name(which, here), found[here] + (which,)
                if there not in found or (len(way), way) < (len(found[there]), found[there]):
                    found[there] = way
                    bettered = True
    return found


def wheel(numbers):
    """The names that come by shears alone."""
    came = [numbers]
    while move_name(0, came[-1]) != numbers:
        came.append(move_name(0, came[-1]))
    return came


def wheels(numbers):
    """How many names each wheel has of all that come, rising."""
    return sorted(len(found) for found in {frozenset(wheel(there)) for there in ways(numbers)})


@lru_cache(maxsize=None)
def all_names(count):
    """The names of all surfaces of so many squares."""
    rows = list(permutations(range(count)))
    # Whatever the eastern ones are, other names of the squares make them one of these: rounds told one behind another.
    easts = {str(sorted(rounds(row))): row for row in rows}.values()
    return sorted({name(e, n) for e in easts for n in rows if hang_together(e, n)})


def one_of_each(count):
    """The least of all that come of one another, of each such lot of names."""
    return [numbers for numbers in all_names(count) if numbers == min(ways(numbers))]
