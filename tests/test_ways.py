"""way and reaches."""

import unittest
from itertools import product

from tests.helper import GREATEST, all_carried, all_names, ask, ask_of, halves, move, one_of_each, surfaces, table, ways
from tests.helper import name as slow_name

ELL = ([1, 0, 2], [2, 1, 0])
ELL_SHEARED = ([1, 0, 2], [1, 2, 0])
ELL_IN_A_ROW = ([2, 0, 1], [1, 0, 2])
ROW = ([1, 2, 0], [0, 1, 2])
BLOCK = ([1, 0, 3, 2], [2, 3, 0, 1])
SIX = ([1, 0, 2, 4, 5, 3], [0, 2, 3, 1, 4, 5])
MANY = ([0, 1, 3, 4, 2, 5], [1, 2, 0, 5, 4, 3])


def way(pair, other):
    return ask_of(*pair, ("way", *other))[0]


def reaches(pair, other):
    return ask_of(*pair, ("reaches", *other))[0]


def told(moves):
    return [len(moves)] + list(moves)


class ByHand(unittest.TestCase):
    def test_one_square(self):
        given = ask(("begin", 1), ("reaches", [0], [0]), ("way", [0], [0]))
        self.assertEqual(given, [[0], [1], [0]])

    def test_two_squares(self):
        row, tower, slanted = ([1, 0], [0, 1]), ([0, 1], [1, 0]), ([1, 0], [1, 0])
        for pair, other, moves in (
            (row, row, []), (row, tower, [2]), (row, slanted, [0]), (tower, row, [2]), (tower, tower, []),
            (tower, slanted, [2, 0]), (slanted, row, [0]), (slanted, tower, [0, 2]), (slanted, slanted, []),
        ):
            self.assertEqual(way(pair, other), told(moves), (pair, other))
            self.assertEqual(reaches(pair, other), [1])

    def test_an_ell(self):
        self.assertEqual(way(ELL, ELL_SHEARED), [1, 0])
        self.assertEqual(way(ELL, ELL_IN_A_ROW), [2, 0, 2])
        self.assertEqual(way(ELL_IN_A_ROW, ELL), [2, 2, 0])

    def test_number_by_number(self):
        given = ask_of(*ELL, ("way", *ELL_IN_A_ROW), ("reaches", *ELL_IN_A_ROW), "state")
        self.assertEqual(given, [[2, 0, 2], [1], table(*ELL)])

    def test_round_a_row_of_six(self):
        # Three shears lead to where three shears back do: the lesser moves are told.
        row = ([1, 2, 3, 4, 5, 0], [0, 1, 2, 3, 4, 5])
        for times, moves in enumerate(([], [0], [0, 0], [0, 0, 0], [1, 1], [1], [])):
            there = row
            for turn in range(times):
                there = move(0, *there)
            self.assertEqual(way(row, there), told(moves), times)

    def test_sheared_back(self):
        # A wheel of three, of two and of one.
        self.assertEqual(way(ROW, move(1, *ROW)), [1, 1])
        self.assertEqual(way(ELL, move(1, *ELL)), [1, 0])
        self.assertEqual(way(BLOCK, move(1, *BLOCK)), [0])

    def test_sheared_back_by_a_way_round(self):
        round_about = [2, 0, 2, 0, 2, 2, 2]
        for numbers in all_names(4) + all_names(5) + one_of_each(6):
            given = ask_of(*halves(numbers), ("do", round_about), ("way", *move(1, *halves(numbers))))
            self.assertEqual(given, [[7], [0]], numbers)


class NoMoves(unittest.TestCase):
    def test_to_itself(self):
        for count in range(1, 7):
            for numbers in one_of_each(count):
                self.assertEqual(way(halves(numbers), halves(numbers)), [0])
                self.assertEqual(reaches(halves(numbers), halves(numbers)), [1])

    def test_to_one_that_has_its_name_but_other_tables(self):
        others = [pair for pair in all_carried(*ELL) if pair != ELL]
        self.assertEqual(len(others), 5)
        for other in others:
            self.assertEqual(way(ELL, other), [0])
            self.assertEqual(reaches(ELL, other), [1])
        for other in all_carried(*SIX)[::37]:
            self.assertEqual(way(SIX, other), [0])

    def test_a_name_alone_counts(self):
        for pair in all_carried(*ELL):
            for other in all_carried(*ELL_IN_A_ROW):
                self.assertEqual(way(pair, other), [2, 0, 2])


class ItDoesNotCome(unittest.TestCase):
    def refused(self, pair, other):
        given = ask_of(*pair, ("reaches", *other), ("way", *other), "state")
        self.assertEqual(given, [[0], [-34], table(*pair)], (pair, other))

    def test_one_of_other_holes(self):
        self.refused(ELL, ROW)
        self.refused(ROW, ELL)
        self.refused(MANY, ([1, 2, 3, 4, 5, 0], [0, 1, 2, 3, 4, 5]))

    def test_one_of_as_many_holes(self):
        self.refused(([1, 2, 3, 0], [0, 1, 2, 3]), BLOCK)
        self.refused(BLOCK, ([1, 2, 3, 0], [0, 1, 2, 3]))

    def test_one_of_all_the_same_corners(self):
        pair, other = ([0, 1, 3, 4, 2], [1, 2, 0, 3, 4]), ([0, 1, 2, 4, 3], [1, 2, 3, 0, 4])
        self.assertEqual(sorted(ask_of(*pair, "corners")[0]), sorted(ask_of(*other, "corners")[0]))
        self.refused(pair, other)
        self.refused(other, pair)

    def test_each_lot_of_six_squares_beside_each_other(self):
        least = one_of_each(6)
        for numbers, other in zip(least, least[1:] + least[:1]):
            self.refused(halves(numbers), halves(other))


class Refused(unittest.TestCase):
    def refused(self, pair, east, north, number):
        given = ask_of(*pair, "state", ("reaches", east, north), ("way", east, north), "state")
        self.assertEqual(given, [table(*pair), [number], [number], table(*pair)], (east, north))

    def test_what_is_not_right_in_either_list(self):
        wrong = [
            [], [0], [1, 0], [0, 1, 2, 3], [1, 0, 2, 2], [0, 0, 1], [2, 2, 2], [0, 1, 3], [1, 2, 3],
            [0, 1, GREATEST], [0, 1, 256], [GREATEST] * 3, list(range(255)), [0, 1, 2] * 85, [0] * 255,
        ]
        for row in wrong:
            self.refused(ELL, row, ELL[1], -22)
            self.refused(ELL, ELL[0], row, -22)
            self.refused(ELL, row, row, -22)

    def test_other_counts_of_squares(self):
        self.refused(ELL, [0], [0], -22)
        self.refused(ELL, *BLOCK, -22)
        self.refused(BLOCK, *ELL, -22)
        self.refused(SIX, list(range(7)), [1, 2, 3, 4, 5, 6, 0], -22)

    def test_what_does_not_hang_together(self):
        self.refused(ELL, [0, 1, 2], [0, 1, 2], -33)
        self.refused(ELL, [1, 0, 2], [1, 0, 2], -33)
        self.refused(ELL, [0, 2, 1], [0, 1, 2], -33)
        self.refused(SIX, [1, 2, 0, 4, 5, 3], [0, 1, 2, 3, 4, 5], -33)
        self.refused(MANY, [1, 2, 0, 4, 5, 3], [1, 2, 0, 4, 5, 3], -33)

    def test_not_right_comes_ahead_of_not_together(self):
        self.refused(ELL, [0, 1, 2], [0, 1, 1], -22)
        self.refused(ELL, [0, 1, 1], [0, 1, 2], -22)
        self.refused(ELL, [0, 1], [0, 1], -22)
        self.refused(ELL, [0, 1, 2], [0, 1, 2, 3], -22)
        self.refused(ELL, [0, 1, 2], [0, 1, GREATEST], -22)

    def test_all_pairs_of_lists_of_two(self):
        rows = [list(row) for count in range(4) for row in product(range(3), repeat=count)]
        for east in rows:
            for north in rows:
                given = ask(("begin", 2), ("glue", east, north), ("begin", 2), ("reaches", east, north))
                self.assertEqual(given[3], given[1] if given[1][0] < 0 else [1], (east, north))


class BesideTheSecondTelling(unittest.TestCase):
    def test_all_rows_of_moves(self):
        """Each row of moves, few ahead of many and the lesser ones ahead: the first that leads there is the way."""
        for pair in surfaces(2) + surfaces(3) + [halves(numbers) for numbers in all_names(4)]:
            first = {}
            for moves in [moves for count in range(6) for moves in product(range(3), repeat=count)]:
                there = pair
                for which in moves:
                    there = move(which, *there)
                first.setdefault(slow_name(*there), moves)
            for there, moves in first.items():
                self.assertEqual(way(pair, halves(there)), told(moves), (pair, there))

    def test_four_and_five_squares(self):
        for numbers in all_names(4) + all_names(5)[::7]:
            for there, moves in ways(numbers).items():
                self.assertEqual(way(halves(numbers), halves(there)), told(moves), (numbers, there))

    def test_six_squares(self):
        for numbers in one_of_each(6) + all_names(6)[::57]:
            for there, moves in list(ways(numbers).items())[::4]:
                self.assertEqual(way(halves(numbers), halves(there)), told(moves), (numbers, there))

    def test_as_many_names_as_may_come(self):
        found = ways(slow_name(*MANY))
        self.assertEqual(len(found), 120)
        self.assertEqual(max(len(moves) for moves in found.values()), 11)
        for there, moves in found.items():
            self.assertEqual(way(MANY, halves(there)), told(moves), there)


class WhatHolds(unittest.TestCase):
    def test_the_way_leads_there(self):
        for numbers in one_of_each(4) + one_of_each(5) + one_of_each(6):
            pair = halves(numbers)
            for there in list(ways(numbers))[::5]:
                moves = way(pair, halves(there))[1:]
                self.assertEqual(ask_of(*pair, ("do", moves), "name")[1][1:], list(there), (numbers, there))

    def test_there_is_a_way_just_where_it_reaches(self):
        for numbers in all_names(4):
            for there in all_names(4):
                reached, led = ask_of(*halves(numbers), ("reaches", *halves(there)), ("way", *halves(there)))
                self.assertEqual(reached, [0] if led == [-34] else [1], (numbers, there))

    def test_whoever_is_reached_reaches(self):
        for numbers in all_names(4):
            for there in all_names(4):
                self.assertEqual(reaches(halves(numbers), halves(there)), reaches(halves(there), halves(numbers)))

    def test_it_is_asked_of_the_surface_as_it_is_now(self):
        given = ask_of(*ELL, ("way", *ELL_IN_A_ROW), ("do", [0]), ("way", *ELL_IN_A_ROW), ("do", [2]),
                       ("way", *ELL_IN_A_ROW), ("glue", *ROW), ("way", *ELL_IN_A_ROW))
        self.assertEqual(given, [[2, 0, 2], [1], [1, 2], [1], [0], [3], [-34]])


if __name__ == "__main__":
    unittest.main()
