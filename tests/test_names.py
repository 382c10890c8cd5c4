"""name and selves."""

import unittest

from tests.helper import all_carried, ask, ask_of, surfaces, told_from

ELL = ([1, 0, 2], [2, 1, 0])
SIX = ([1, 0, 2, 4, 5, 3], [0, 2, 3, 1, 4, 5])


def name(east, north):
    return ask_of(east, north, "name")[0]


def selves(east, north):
    return ask_of(east, north, "selves")[0]


class Name(unittest.TestCase):
    def test_an_ell(self):
        # By the orders from 0, 1 and 2: 102 210, 102 021 and 021 102.
        self.assertEqual(name(*ELL), [6, 0, 2, 1, 1, 0, 2])

    def test_rows_and_towers(self):
        self.assertEqual(ask(("begin", 1), "name")[1], [2, 0, 0])
        self.assertEqual(ask(("begin", 2), "name")[1], [4, 1, 0, 0, 1])
        self.assertEqual(ask(("begin", 6), "name")[1], [12, 1, 2, 3, 4, 5, 0, 0, 1, 2, 3, 4, 5])
        self.assertEqual(name([0, 1, 2], [2, 0, 1]), [6, 0, 1, 2, 1, 2, 0])

    def test_only_orders_from_squares_count(self):
        # Of all choices of names others may give less, but no order from a square leads to them.
        lesser = [pair for pair in surfaces(4) if min(e + n for e, n in all_carried(*pair)) < name(*pair)[1:]]
        self.assertTrue(lesser)
        # All squares are alike here, so there's one order but for names: 0, east 1, north 2, then 3.
        self.assertEqual(name([1, 0, 3, 2], [2, 3, 0, 1]), [8, 1, 0, 3, 2, 2, 3, 0, 1])

    def test_eastern_ones_weigh_ahead_of_northern_ones(self):
        # By the northern ones 102 021 would be the least, by the eastern ones 021 102 is.
        self.assertEqual(name([1, 0, 2], [0, 2, 1]), [6, 0, 2, 1, 1, 0, 2])

    def test_by_the_orders_from_all_squares(self):
        for count in (1, 2, 3, 4):
            for east, north in surfaces(count):
                least = min(told_from(square, east, north) for square in range(count))
                self.assertEqual(name(east, north), [2 * count] + least, (east, north))

    def test_one_name_just_for_the_same_but_for_names(self):
        for count in (1, 2, 3, 4):
            kinds = {}
            names = {}
            for pair in surfaces(count):
                kind = str(min(all_carried(*pair)))
                kinds.setdefault(kind, set()).add(str(name(*pair)))
                names.setdefault(str(name(*pair)), set()).add(kind)
            self.assertTrue(all(len(found) == 1 for found in kinds.values()))
            self.assertTrue(all(len(found) == 1 for found in names.values()))

    def test_six_squares_under_all_names(self):
        self.assertEqual({str(name(*pair)) for pair in all_carried(*SIX)}, {str(name(*SIX))})

    def test_not_the_same(self):
        self.assertNotEqual(name([1, 2, 0], [0, 1, 2]), name([0, 1, 2], [1, 2, 0]))
        self.assertNotEqual(name([1, 2, 0], [1, 2, 0]), name([1, 2, 0], [2, 0, 1]))
        self.assertNotEqual(name(*ELL), name([1, 2, 0], [0, 2, 1]))
        self.assertNotEqual(name(*SIX), name(SIX[1], SIX[0]))

    def test_a_name_is_its_own_name(self):
        for east, north in [ELL, SIX]:
            told = name(east, north)[1:]
            count = len(east)
            self.assertEqual(name(told[:count], told[count:])[1:], told)


class Selves(unittest.TestCase):
    def test_rows(self):
        for count in range(1, 7):
            self.assertEqual(ask(("begin", count), "selves")[1], [count])

    def test_one_way_alone(self):
        self.assertEqual(selves(*ELL), [1])
        self.assertEqual(selves(*SIX), [1])

    def test_more_ways_than_one_but_fewer_than_squares(self):
        self.assertEqual(selves([1, 0, 3, 2], [0, 2, 1, 3]), [2])
        self.assertEqual(selves([1, 2, 0, 4, 5, 3], [3, 1, 2, 0, 4, 5]), [2])

    def test_as_many_as_names_that_change_nothing(self):
        for count in (1, 2, 3, 4):
            for east, north in surfaces(count):
                self.assertEqual(selves(east, north), [all_carried(east, north).count((east, north))], (east, north))

    def test_six_squares_that_are_all_alike(self):
        east, north = [1, 2, 0, 4, 5, 3], [3, 5, 4, 0, 2, 1]
        self.assertEqual(selves(east, north), [6])
        self.assertEqual(all_carried(east, north).count((east, north)), 6)


if __name__ == "__main__":
    unittest.main()
