"""orbit, wheels, wheel, least and place."""

import unittest

from tests.helper import all_names, ask, ask_of, halves, move_name, one_of_each, surfaces, table, ways, wheel, wheels
from tests.helper import name as slow_name

# Three squares in the form of an L; sheared it's another one, sheared again it's an L once more.
ELL = ([1, 0, 2], [2, 1, 0])
ELL_SHEARED = ([1, 0, 2], [1, 2, 0])
ELL_IN_A_ROW = ([2, 0, 1], [1, 0, 2])
# Four squares, two by two: whatever is done, it's the same but for names.
BLOCK = ([1, 0, 3, 2], [2, 3, 0, 1])
# Six squares of which as many names come as may.
MANY = ([0, 1, 3, 4, 2, 5], [1, 2, 0, 5, 4, 3])

ASKED = ("orbit", "wheels", "wheel", "least", "place")
SIXES = one_of_each(6) + all_names(6)[::13]


def expected(east, north):
    """What the calls of ASKED answer, by the second telling."""
    own = slow_name(east, north)
    come = list(ways(own))
    sizes = wheels(own)
    return [
        [len(come)],
        [len(sizes)] + sizes,
        [len(wheel(own))],
        [2 * len(east)] + list(min(come)),
        [len([there for there in come if there < own])],
    ]


class ByHand(unittest.TestCase):
    def test_one_square(self):
        given = ask(("begin", 1), *ASKED)
        self.assertEqual(given, [[0], [1], [1, 1], [1], [2, 0, 0], [0]])

    def test_two_squares(self):
        tower = [4, 0, 1, 1, 0]
        self.assertEqual(ask_of([1, 0], [0, 1], *ASKED), [[3], [2, 1, 2], [2], tower, [1]])
        self.assertEqual(ask_of([0, 1], [1, 0], *ASKED), [[3], [2, 1, 2], [1], tower, [0]])
        self.assertEqual(ask_of([1, 0], [1, 0], *ASKED), [[3], [2, 1, 2], [2], tower, [2]])

    def test_an_ell(self):
        least = [6, 0, 2, 1, 1, 0, 2]
        self.assertEqual(ask_of(*ELL, *ASKED), [[3], [2, 1, 2], [2], least, [0]])
        self.assertEqual(ask_of(*ELL_SHEARED, *ASKED), [[3], [2, 1, 2], [2], least, [1]])
        self.assertEqual(ask_of(*ELL_IN_A_ROW, *ASKED), [[3], [2, 1, 2], [1], least, [2]])

    def test_rows_of_three_to_six(self):
        for count, sizes in ((3, [1, 3]), (4, [1, 1, 4]), (5, [1, 5]), (6, [1, 2, 3, 6])):
            given = ask(("begin", count), "orbit", "wheels", "wheel", "least")
            tower = list(range(count)) + list(range(1, count)) + [0]
            self.assertEqual(
                given, [[0], [sum(sizes)], [len(sizes)] + sizes, [count], [2 * count] + tower], count
            )

    def test_one_that_comes_to_itself_alone(self):
        given = ask_of(*BLOCK, *ASKED)
        self.assertEqual(given, [[1], [1, 1], [1], [8, 1, 0, 3, 2, 2, 3, 0, 1], [0]])

    def test_a_wheel_of_one(self):
        for count in range(1, 7):
            tower = (list(range(count)), [(square + 1) % count for square in range(count)])
            self.assertEqual(ask_of(*tower, "wheel"), [[1]])

    def test_a_wheel_of_one_whose_tables_change(self):
        given = ask_of(*BLOCK, "wheel", ("do", [0]), "state", "wheel")
        self.assertEqual(given[0], [1])
        self.assertNotEqual(given[2], table(*BLOCK))
        self.assertEqual(given[3], [1])

    def test_as_many_names_as_may_come(self):
        sizes = [3] * 4 + [4] * 4 + [5] * 4 + [6] * 12
        given = ask_of(*MANY, "orbit", "wheels", "wheel")
        self.assertEqual(given, [[120], [24] + sizes, [3]])

    def test_nearly_as_many(self):
        self.assertEqual(ask_of([0, 2, 1, 4, 3, 5], [1, 0, 3, 5, 4, 2], "orbit")[0], [96])


class BesideTheSecondTelling(unittest.TestCase):
    def test_all_tables_of_four_squares_or_fewer(self):
        for count in (1, 2, 3, 4):
            for pair in surfaces(count):
                self.assertEqual(ask_of(*pair, *ASKED), expected(*pair), pair)

    def test_all_names_of_five_squares(self):
        for numbers in all_names(5):
            self.assertEqual(ask_of(*halves(numbers), *ASKED), expected(*halves(numbers)), numbers)

    def test_six_squares(self):
        for numbers in SIXES:
            self.assertEqual(ask_of(*halves(numbers), *ASKED), expected(*halves(numbers)), numbers)

    def test_the_wheel_of_each_of_six_squares(self):
        for numbers in all_names(6):
            self.assertEqual(ask_of(*halves(numbers), "wheel"), [[len(wheel(numbers))]], numbers)

    def test_places_go_from_nought_up(self):
        for numbers in all_names(4) + one_of_each(5):
            places = [ask_of(*halves(there), "place")[0][0] for there in sorted(ways(numbers))]
            self.assertEqual(places, list(range(len(places))), numbers)


class WhatHolds(unittest.TestCase):
    def test_just_those_to_which_some_row_of_moves_leads(self):
        for count in (1, 2, 3, 4, 5):
            for numbers in one_of_each(count):
                come = ways(numbers)
                for there in all_names(count):
                    reached = ask_of(*halves(numbers), ("reaches", *halves(there)))[0]
                    self.assertEqual(reached, [1 if there in come else 0], (numbers, there))

    def test_all_wheels_together_are_all_that_come(self):
        for numbers in SIXES:
            orbit, wheels_told = ask_of(*halves(numbers), "orbit", "wheels")
            self.assertEqual(wheels_told[0], len(wheels_told) - 1)
            self.assertEqual(sum(wheels_told[1:]), orbit[0], numbers)
            self.assertEqual(wheels_told[1:], sorted(wheels_told[1:]), numbers)

    def test_whichever_come_are_told_the_same(self):
        asked = ["orbit", "wheels", "least"]
        for numbers in one_of_each(5) + one_of_each(6)[:8]:
            first = ask_of(*halves(numbers), *asked)
            for moves in ([0], [1], [2], [0, 2, 0], [1, 1, 2, 0, 2]):
                self.assertEqual(ask_of(*halves(numbers), ("do", moves), *asked)[1:], first, (numbers, moves))

    def test_the_wheel_stays_when_sheared(self):
        for numbers in one_of_each(6):
            given = ask_of(*halves(numbers), "wheel", ("do", [0]), "wheel", ("do", [1, 1]), "wheel")
            self.assertEqual(given[0], given[2])
            self.assertEqual(given[0], given[4])

    def test_whichever_come_have_as_many_holes_and_selves(self):
        for count in (4, 5, 6):
            for numbers in one_of_each(count):
                first = ask_of(*halves(numbers), "holes", "selves")
                for there in ways(numbers):
                    self.assertEqual(ask_of(*halves(there), "holes", "selves"), first, (numbers, there))

    def test_the_second_telling_knows_all_surfaces_of_six_squares(self):
        # As many names as classes of subgroups of that index in the free group of two generators.
        self.assertEqual([len(all_names(count)) for count in range(1, 7)], [1, 3, 7, 26, 97, 624])
        self.assertEqual(sum(len(ways(numbers)) for numbers in one_of_each(6)), 624)

    def test_names_alike_tables_not(self):
        pair, other = ([1, 2, 0], [1, 0, 2]), ([1, 2, 0], [0, 2, 1])
        self.assertEqual(ask_of(*pair, *ASKED), ask_of(*other, *ASKED))

    def test_sheared_three_times_in_a_wheel_of_three(self):
        own = slow_name([1, 2, 0], [0, 1, 2])
        self.assertEqual(move_name(0, move_name(0, move_name(0, own))), own)
        self.assertEqual(ask(("begin", 3), "wheel")[1], [3])


if __name__ == "__main__":
    unittest.main()
