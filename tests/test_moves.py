"""do."""

import unittest

from tests.helper import GREATEST, ask, ask_of, move, surfaces, table

ELL = ([1, 0, 2], [2, 1, 0])
SIXES = [
    ([1, 2, 3, 4, 5, 0], [0, 1, 2, 3, 4, 5]),
    ([1, 0, 2, 4, 5, 3], [0, 2, 3, 1, 4, 5]),
    ([1, 2, 0, 4, 5, 3], [3, 1, 2, 0, 4, 5]),
    ([1, 2, 0, 4, 5, 3], [3, 5, 4, 0, 2, 1]),
    ([1, 2, 3, 4, 5, 0], [1, 0, 3, 2, 5, 4]),
    ([0, 1, 2, 3, 4, 5], [5, 0, 1, 2, 3, 4]),
]
ALL = [pair for count in (1, 2, 3, 4) for pair in surfaces(count)] + SIXES


class Do(unittest.TestCase):
    def done(self, pair, moves):
        """The table that the moves lead to."""
        given = ask_of(*pair, ("do", moves), "state")
        self.assertEqual(given[0], [len(moves)])
        return given[1]

    def test_each_move_of_a_row(self):
        row = ([1, 2, 0], [0, 1, 2])
        self.assertEqual(self.done(row, [0]), table([1, 2, 0], [2, 0, 1]))
        self.assertEqual(self.done(row, [1]), table([1, 2, 0], [1, 2, 0]))
        self.assertEqual(self.done(row, [2]), table([0, 1, 2], [1, 2, 0]))

    def test_each_move_of_an_ell_with_other_ways_back(self):
        pair = ([1, 2, 0], [1, 0, 2])
        self.assertEqual(self.done(pair, [0]), table([1, 2, 0], [2, 1, 0]))
        self.assertEqual(self.done(pair, [1]), table([1, 2, 0], [0, 2, 1]))
        self.assertEqual(self.done(pair, [2]), table([1, 0, 2], [1, 2, 0]))
        self.assertEqual(self.done(([1, 0, 2], [1, 2, 0]), [2]), table([2, 0, 1], [1, 0, 2]))

    def test_one_behind_another(self):
        row = ([1, 2, 0], [0, 1, 2])
        self.assertEqual(self.done(row, [0, 2]), table([1, 2, 0], [1, 2, 0]))
        self.assertEqual(self.done(row, [2, 0]), table([0, 1, 2], [1, 2, 0]))

    def test_done_at_once_or_call_by_call(self):
        moves = [0, 2, 1, 1, 2, 0, 2]
        for pair in SIXES:
            calls = [("do", [which]) for which in moves]
            self.assertEqual(ask_of(*pair, *calls, "state")[-1], self.done(pair, moves))

    def test_each_move_of_all(self):
        for pair in ALL:
            for which in (0, 1, 2):
                self.assertEqual(self.done(pair, [which]), table(*move(which, *pair)), (pair, which))

    def test_no_moves(self):
        self.assertEqual(ask_of(*ELL, ("do", []), "state"), [[0], table(*ELL)])

    def test_one_square_stays(self):
        self.assertEqual(ask(("begin", 1), ("do", [0, 1, 2]), "state"), [[0], [3], [1, 0, 0]])

    def test_just_thirty_moves(self):
        moves = [0, 2, 0, 0, 2, 1, 2, 2, 1, 0] * 3
        for pair in SIXES:
            there = pair
            for which in moves:
                there = move(which, *there)
            self.assertEqual(self.done(pair, moves), table(*there))
        for which in (0, 1, 2):
            self.assertEqual(ask_of(*ELL, ("do", [which] * 30))[0], [30])


class DoRefused(unittest.TestCase):
    def refused(self, moves):
        given = ask_of(*ELL, "state", ("do", moves), "state")
        self.assertEqual(given, [table(*ELL), [-22], table(*ELL)], moves)

    def test_too_many(self):
        for count in (31, 32, 60, 254, 255):
            for which in (0, 1, 2, 3, GREATEST):
                self.refused([which] * count)

    def test_no_such_move(self):
        for which in (3, 4, 255, 256, 258, GREATEST):
            self.refused([which])
            self.refused([which, 0])
            self.refused([0, which])
            self.refused([0, 2, which, 2, 1])
            self.refused([2] * 29 + [which])

    def test_the_calls_behind_it_are_still_found(self):
        given = ask_of(*ELL, ("do", [7] * 255), ("do", [2]), "state")
        self.assertEqual(given, [[-22], [1], table([2, 1, 0], [1, 0, 2])])


class WhatHolds(unittest.TestCase):
    def test_sheared_and_sheared_back(self):
        for pair in ALL:
            for moves in ([0, 1], [1, 0], [0, 0, 1, 1]):
                self.assertEqual(ask_of(*pair, ("do", moves), "state")[1], table(*pair), (pair, moves))

    def test_turned_four_times(self):
        for pair in ALL:
            self.assertEqual(ask_of(*pair, ("do", [2, 2, 2, 2]), "state")[1], table(*pair), pair)

    def test_turned_fewer_times_is_not_as_it_was(self):
        for times in (1, 2, 3):
            given = ask_of([1, 2, 0], [1, 0, 2], ("do", [2] * times), "state")
            self.assertNotEqual(given[1], table([1, 2, 0], [1, 0, 2]))

    def test_sheared_and_turned_three_times_is_turned_twice(self):
        for pair in ALL:
            thrice = ask_of(*pair, ("do", [0, 2, 0, 2, 0, 2]), "name")[1]
            self.assertEqual(thrice, ask_of(*pair, ("do", [2, 2]), "name")[1], pair)

    def test_sheared_on_and_on_it_comes_round(self):
        self.assertEqual(ask(("begin", 6), ("do", [0] * 6), "state")[2], table(*SIXES[0]))

    def test_holes_and_selves_stay(self):
        asked = ["holes", "selves"]
        for pair in ALL:
            first = ask_of(*pair, *asked)
            for moves in ([0], [1], [2], [0, 2], [1, 2, 0], [2, 0, 0, 2, 1, 2, 2], [0, 0, 2] * 10):
                self.assertEqual(ask_of(*pair, ("do", moves), *asked)[1:], first, (pair, moves))

    def test_names_stay_alike(self):
        pair, other = ([1, 2, 0], [1, 0, 2]), ([1, 2, 0], [0, 2, 1])
        self.assertEqual(ask_of(*pair, "name"), ask_of(*other, "name"))
        for moves in ([0], [1], [2], [2, 0, 1, 1, 2]):
            self.assertEqual(ask_of(*pair, ("do", moves), "name"), ask_of(*other, ("do", moves), "name"))


if __name__ == "__main__":
    unittest.main()
