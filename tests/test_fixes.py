"""fixes and halfturn."""

import unittest

from tests.helper import GREATEST, all_names, ask, ask_of, halves, move, one_of_each, surfaces, table
from tests.helper import name as slow_name

ELL = ([1, 0, 2], [2, 1, 0])
ROW = ([1, 2, 0], [0, 1, 2])
BLOCK = ([1, 0, 3, 2], [2, 3, 0, 1])
# Five squares, and six, that half a turn changes.
LOPSIDED = ([0, 2, 1, 4, 3], [1, 2, 3, 0, 4])
MANY = ([0, 1, 3, 4, 2, 5], [1, 2, 0, 5, 4, 3])

ROWS_OF_MOVES = ([0], [1], [2], [0, 0], [2, 2], [0, 2], [2, 0], [1, 2, 0], [0, 0, 0, 2, 1], [0, 2, 0, 2, 0, 2])
NAMES = [numbers for count in range(1, 6) for numbers in all_names(count)] + one_of_each(6) + all_names(6)[::9]


def fixes(pair, moves):
    return ask_of(*pair, ("fixes", moves))[0]


def halfturn(pair):
    return ask_of(*pair, "halfturn")[0]


def stays(pair, moves):
    """1 or 0, by the second telling."""
    there = pair
    for which in moves:
        there = move(which, *there)
    return [1 if slow_name(*there) == slow_name(*pair) else 0]


class Fixes(unittest.TestCase):
    def test_an_ell(self):
        for moves, answer in (([0], 0), ([0, 0], 1), ([2], 1), ([1], 0), ([0, 1], 1), ([0, 2], 0), ([0, 2, 2, 0], 1)):
            self.assertEqual(fixes(ELL, moves), [answer], moves)

    def test_a_row(self):
        for moves, answer in (([0], 0), ([0, 0], 0), ([0, 0, 0], 1), ([1, 1, 1], 1), ([2], 0), ([2, 0, 2], 1)):
            self.assertEqual(fixes(ROW, moves), [answer], moves)

    def test_one_square(self):
        for moves in ROWS_OF_MOVES:
            self.assertEqual(ask(("begin", 1), ("fixes", moves)), [[0], [1]])

    def test_one_that_comes_to_itself_alone(self):
        for moves in ROWS_OF_MOVES:
            self.assertEqual(fixes(BLOCK, moves), [1])

    def test_no_moves(self):
        for count in range(1, 7):
            for numbers in one_of_each(count):
                self.assertEqual(fixes(halves(numbers), []), [1])

    def test_names_alike_tables_not(self):
        given = ask_of(*ELL, ("fixes", [2]), ("do", [2]), "state")
        self.assertEqual(given[0], [1])
        self.assertNotEqual(given[2], table(*ELL))

    def test_beside_the_second_telling(self):
        pairs = surfaces(2) + surfaces(3) + [halves(numbers) for numbers in NAMES]
        for pair in pairs:
            for moves in ROWS_OF_MOVES:
                self.assertEqual(fixes(pair, moves), stays(pair, moves), (pair, moves))

    def test_just_thirty_moves(self):
        for moves in ([0] * 30, [1] * 30, [2] * 30, [0, 2, 0, 0, 2, 1] * 5, [2] * 29 + [0], [2] * 28 + [0, 0]):
            for pair in (ELL, ROW, LOPSIDED, MANY):
                self.assertEqual(fixes(pair, moves), stays(pair, moves), (pair, moves))
        self.assertEqual(fixes(ELL, [0] * 30), [1])
        self.assertEqual(fixes(ELL, [0] * 29), [0])
        self.assertEqual(fixes(ELL, [2] * 29 + [0]), [0])

    def test_sheared_and_turned_three_times_is_turned_twice(self):
        for numbers in NAMES:
            pair = halves(numbers)
            self.assertEqual(fixes(pair, [0, 2, 0, 2, 0, 2, 2, 2]), [1], pair)
            self.assertEqual(fixes(pair, [0, 2, 0, 2, 0, 2]), fixes(pair, [2, 2]), pair)

    def test_sheared_back_by_a_way_round(self):
        for numbers in NAMES:
            self.assertEqual(fixes(halves(numbers), [2, 0, 2, 0, 2, 2, 2, 0]), [1], numbers)

    def test_as_do_would(self):
        for numbers in one_of_each(5):
            for moves in ROWS_OF_MOVES:
                given = ask_of(*halves(numbers), "name", ("fixes", moves), ("do", moves), "name")
                self.assertEqual(given[1], [1 if given[0] == given[3] else 0], (numbers, moves))


class FixesRefused(unittest.TestCase):
    def refused(self, moves):
        given = ask_of(*ELL, "state", ("fixes", moves), "state")
        self.assertEqual(given, [table(*ELL), [-22], table(*ELL)], moves)

    def test_too_many(self):
        for count in (31, 32, 60, 254, 255):
            for which in (0, 1, 2, 3, GREATEST):
                self.refused([which] * count)

    def test_no_such_move(self):
        for which in (3, 4, 255, 256, 258, GREATEST):
            for moves in ([which], [which, 0], [0, which], [0, 2, which, 2, 1], [2] * 29 + [which]):
                self.refused(moves)

    def test_one_square_as_well(self):
        self.assertEqual(ask(("begin", 1), ("fixes", [3]), ("fixes", [0] * 31)), [[0], [-22], [-22]])

    def test_the_calls_behind_it_are_still_found(self):
        given = ask_of(*ELL, ("fixes", [7] * 255), ("fixes", [2]), "state")
        self.assertEqual(given, [[-22], [1], table(*ELL)])


class Halfturn(unittest.TestCase):
    def test_it_changes_nothing_of_one_square_or_a_row(self):
        for count in range(1, 7):
            self.assertEqual(ask(("begin", count), "halfturn"), [[0], [1]])

    def test_it_does_not_change_an_ell(self):
        self.assertEqual(halfturn(ELL), [1])

    def test_it_changes_these(self):
        self.assertEqual(halfturn(LOPSIDED), [0])
        self.assertEqual(halfturn(MANY), [0])

    def test_it_is_not_a_quarter(self):
        self.assertEqual(ask_of(*ROW, "halfturn", ("fixes", [2])), [[1], [0]])

    def test_names_alike_tables_not(self):
        given = ask(("begin", 3), "halfturn", ("do", [2, 2]), "state")
        self.assertEqual(given, [[0], [1], [2], table([2, 0, 1], [0, 1, 2])])

    def test_beside_the_second_telling(self):
        answers = []
        for numbers in NAMES:
            answers.append(halfturn(halves(numbers)))
            self.assertEqual(answers[-1], stays(halves(numbers), [2, 2]), numbers)
        self.assertIn([0], answers)
        self.assertIn([1], answers)

    def test_no_surface_of_four_squares_or_fewer_is_changed(self):
        for count in (1, 2, 3, 4):
            for pair in surfaces(count):
                self.assertEqual(halfturn(pair), [1], pair)


if __name__ == "__main__":
    unittest.main()
