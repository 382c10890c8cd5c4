"""What is refused as too many, and how long the longest calls take."""

import time
import unittest
from unittest import mock

from tests.helper import ask, ask_of, halves, name, one_of_each, table, ways
from shearedsquares import orbits

ELL = ([1, 0, 2], [2, 1, 0])
ELL_SHEARED = ([1, 0, 2], [1, 2, 0])
ROW = ([1, 2, 0], [0, 1, 2])
MANY = ([0, 1, 3, 4, 2, 5], [1, 2, 0, 5, 4, 3])


def most_names(count):
    return mock.patch.object(orbits, "MOST_NAMES", count)


class OneToSixSquares(unittest.TestCase):
    """All surfaces of six squares or fewer are among these, as is told of the second telling elsewhere."""

    def test_never_too_many(self):
        for count in range(1, 7):
            for numbers in one_of_each(count):
                pair = halves(numbers)
                given = ask_of(*pair, "orbit", "wheels", "least", "place", ("reaches", *pair), ("way", *pair))
                self.assertTrue(all(answer[0] >= 0 for answer in given), numbers)

    def test_the_most_is_not_yet_too_many(self):
        self.assertEqual(max(len(ways(numbers)) for numbers in one_of_each(6)), 120)
        given = ask_of(*MANY, "orbit", ("reaches", *MANY), ("way", *MANY), ("do", [0, 2]), "orbit")
        self.assertEqual(given, [[120], [1], [0], [2], [120]])

    def test_what_is_told_to_be_the_most(self):
        self.assertEqual(orbits.MOST_NAMES, 120)


class TooMany(unittest.TestCase):
    """Never due of six squares or fewer: so the most is set lower here, to what an L has and to one less."""

    all_calls = ["orbit", "wheels", "least", "place", ("reaches", *ELL_SHEARED), ("way", *ELL_SHEARED)]

    def test_one_more_than_the_most(self):
        with most_names(2):
            self.assertEqual(ask_of(*ELL, *self.all_calls, "state"), [[-75]] * 6 + [table(*ELL)])

    def test_just_the_most(self):
        without = ask_of(*ELL, *self.all_calls)
        with most_names(3):
            self.assertEqual(ask_of(*ELL, *self.all_calls), without)

    def test_many_more_than_the_most(self):
        calls = ["orbit", "wheels", "least", "place", ("reaches", *MANY), ("way", *MANY)]
        for count in (1, 60, 119):
            with most_names(count):
                self.assertEqual(ask_of(*MANY, *calls), [[-75]] * 6)

    def test_behind_what_is_not_right_and_what_does_not_hang_together(self):
        with most_names(2):
            for other, number in ((([0, 1], [0, 1, 2]), -22), (([0, 1, 2], [0, 1, 2]), -33)):
                self.assertEqual(ask_of(*ELL, ("reaches", *other), ("way", *other)), [[number]] * 2)

    def test_ahead_of_what_does_not_come(self):
        with most_names(2):
            self.assertEqual(ask_of(*ELL, ("reaches", *ROW), ("way", *ROW)), [[-75], [-75]])
        with most_names(3):
            self.assertEqual(ask_of(*ELL, ("reaches", *ROW), ("way", *ROW)), [[0], [-34]])

    def test_behind_a_missing_begin(self):
        with most_names(0):
            self.assertEqual(ask(*self.all_calls), [[-11]] * 6)

    def test_the_other_calls_are_answered(self):
        with most_names(1):
            given = ask_of(*ELL, "wheel", ("fixes", [0, 0]), "halfturn", "name", ("do", [0]), "selves")
        self.assertEqual(given, [[2], [1], [1], [6, 0, 2, 1, 1, 0, 2], [1], [1]])


class HowLong(unittest.TestCase):
    def test_thirty_of_the_longest(self):
        found = ways(name(*MANY))
        far = halves(max(found, key=lambda there: len(found[there])))
        none = ([1, 2, 3, 4, 5, 0], [0, 1, 2, 3, 4, 5])
        longest = ["wheels", "orbit", "least", "place", ("way", *far), ("reaches", *none), ("way", *none)] * 4
        start = time.perf_counter()
        given = ask(("begin", 6), ("glue", *MANY), *longest)
        self.assertLess(time.perf_counter() - start, 5)
        self.assertEqual(len(given), 30)
        self.assertEqual(given[2:9], given[23:])

    def test_thirty_of_each(self):
        for call in ("wheels", "orbit", "least", "place", "wheel", ("way", *MANY), ("reaches", *MANY),
                     ("fixes", [2, 0] * 15), "halfturn"):
            start = time.perf_counter()
            given = ask(("begin", 6), ("glue", *MANY), *[call] * 28)
            self.assertLess(time.perf_counter() - start, 5, call)
            self.assertEqual(given[2:], [given[2]] * 28)


if __name__ == "__main__":
    unittest.main()
