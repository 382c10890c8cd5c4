"""begin, glue, corners, holes, rows and state."""

import unittest

from tests.helper import GREATEST, ask, ask_of, corners, hang_together, rounds, surfaces, table
from shearedsquares.squares import answers

# Three squares in the form of an L: 1 lies east of 0, 2 north of it.
ELL = ([1, 0, 2], [2, 1, 0])
# Six squares, none of whose answers come in the order in which they rise.
SIX = ([1, 0, 2, 4, 5, 3], [0, 2, 3, 1, 4, 5])


class Begin(unittest.TestCase):
    def test_one_row_of_each_length(self):
        for n in range(1, 7):
            east = [(square + 1) % n for square in range(n)]
            self.assertEqual(ask(("begin", n), "state"), [[0], table(east, range(n))])

    def test_the_list_number_by_number(self):
        self.assertEqual(answers([0, 1]), [1, 0])
        self.assertEqual(answers([0, 3, 7, 2]), [1, 0, 7, 3, 1, 2, 0, 0, 1, 2, 4, 3, 1, 1, 1])

    def test_other_counts_are_refused(self):
        for n in (0, 7, 8, 255, 256, GREATEST):
            self.assertEqual(ask(("begin", n)), [[-22]])
            self.assertEqual(ask(("begin", n), "state"), [[-22], [-11]])

    def test_a_refused_begin_changes_nothing(self):
        for n in (0, 7, GREATEST):
            given = ask_of(*ELL, "state", ("begin", n), "state")
            self.assertEqual(given, [table(*ELL), [-22], table(*ELL)])

    def test_begin_again_is_a_new_row(self):
        given = ask_of(*ELL, ("begin", 2), "state", ("begin", 6), "rows", ("begin", 3), "state")
        self.assertEqual(given, [[0], [2, 1, 0, 0, 1], [0], [1, 6], [0], table([1, 2, 0], [0, 1, 2])])

    def test_begin_again_tells_glue_how_many_squares(self):
        given = ask(("begin", 3), ("begin", 2), ("glue", *ELL), ("glue", [0, 1], [1, 0]), "state")
        self.assertEqual(given, [[0], [0], [-22], [2], [2, 0, 1, 1, 0]])


class BeforeABegin(unittest.TestCase):
    calls = [
        ("glue", [0], [0]), "corners", "holes", "rows", "name", "selves", "state", ("do", [0]),
        "orbit", "wheels", "wheel", ("way", [0], [0]), ("reaches", [0], [0]), "least", "place", ("fixes", [0]),
        "halfturn",
    ]

    def test_each_call(self):
        for call in self.calls:
            self.assertEqual(ask(call), [[-11]], call)

    def test_the_next_call_is_still_found(self):
        for call in self.calls:
            self.assertEqual(ask(call, ("begin", 1), "state"), [[-11], [0], [1, 0, 0]], call)

    def test_behind_a_refused_begin(self):
        self.assertEqual(ask(("begin", 7), *self.calls), [[-22]] + [[-11]] * len(self.calls))

    def test_ahead_of_what_is_not_right(self):
        wrong = [GREATEST] * 255
        calls = [("glue", wrong, []), ("do", wrong), ("way", [], wrong), ("reaches", wrong, wrong), ("fixes", wrong)]
        self.assertEqual(ask(*calls, ("begin", 2), "holes"), [[-11]] * 5 + [[0], [1]])

    def test_nothing_of_it_stays(self):
        self.assertEqual(ask(("glue", [0], [0]), ("do", [2]), "state"), [[-11]] * 3)


class Glue(unittest.TestCase):
    def refused(self, east, north, number):
        """Asked behind a good glue, so that a change would show."""
        given = ask_of(*ELL, "state", ("glue", east, north), "state")
        self.assertEqual(given, [table(*ELL), [number], table(*ELL)], (east, north))

    def test_how_many_corners(self):
        self.assertEqual(ask(("begin", 1), ("glue", [0], [0]), "state"), [[0], [1], [1, 0, 0]])
        self.assertEqual(ask(("begin", 3), ("glue", *ELL), "state"), [[0], [1], table(*ELL)])
        self.assertEqual(ask(("begin", 6), ("glue", *SIX), "state"), [[0], [2], table(*SIX)])

    def test_glued_again(self):
        given = ask_of(*ELL, ("glue", [1, 2, 0], [1, 2, 0]), "state")
        self.assertEqual(given, [[3], table([1, 2, 0], [1, 2, 0])])

    def test_what_is_not_right_in_either_list(self):
        wrong = [
            [], [0], [1, 0], [0, 1, 2, 3], [1, 0, 2, 2], [0, 0, 1], [2, 2, 2], [0, 1, 3], [1, 2, 3],
            [0, 1, GREATEST], [0, 1, 256], [GREATEST] * 3, list(range(255)), [0, 1, 2] * 85, [0] * 255,
        ]
        for row in wrong:
            self.refused(row, ELL[1], -22)
            self.refused(ELL[0], row, -22)
            self.refused(row, row, -22)

    def test_numbers_moved_from_one_list_to_the_other(self):
        self.refused([1, 0], [2, 2, 1, 0], -22)
        self.refused([1, 0, 2, 2], [1, 0], -22)

    def test_what_does_not_hang_together(self):
        self.refused([0, 1, 2], [0, 1, 2], -33)
        self.refused([1, 0, 2], [1, 0, 2], -33)
        self.refused([0, 2, 1], [0, 1, 2], -33)
        self.refused([0, 1, 2], [2, 1, 0], -33)

    def test_not_right_comes_ahead_of_not_together(self):
        self.refused([0, 1, 2], [0, 1, 1], -22)
        self.refused([0, 1, 1], [0, 1, 2], -22)
        self.refused([0, 1], [0, 1], -22)
        self.refused([0, 1, 2], [0, 1, 2, 3], -22)
        self.refused([0, 1, 2], [0, 1, GREATEST], -22)

    def test_it_is_not_the_old_tables_that_must_hang_together(self):
        self.assertEqual(ask(("begin", 2), ("glue", [0, 1], [0, 1]), "state"), [[0], [-33], [2, 1, 0, 0, 1]])
        self.assertEqual(ask(("begin", 2), ("glue", [0, 1], [1, 0]), "state"), [[0], [2], [2, 0, 1, 1, 0]])

    def test_six_squares(self):
        ring = [1, 2, 3, 4, 5, 0]
        alone = [0, 1, 2, 3, 4, 5]
        halves = [1, 2, 0, 4, 5, 3]
        across = [3, 1, 2, 0, 4, 5]
        for east, north, answer in (
            (ring, alone, 6), (alone, ring, 6), (halves, alone, -33), (halves, halves, -33), (halves, across, 4),
        ):
            self.assertEqual(ask(("begin", 6), ("glue", east, north))[1], [answer])

    def test_all_pairs_of_lists_of_three(self):
        rows = [[a, b, c] for a in range(4) for b in range(4) for c in range(4)]
        right = [row for row in rows if sorted(row) == [0, 1, 2]]
        for east in rows:
            for north in right:
                if east not in right:
                    self.refused(east, north, -22)
                    self.refused(north, east, -22)
                elif not hang_together(east, north):
                    self.refused(east, north, -33)
                else:
                    given = ask_of(*ELL, ("glue", east, north), "state")
                    self.assertEqual(given, [[len(corners(east, north))], table(east, north)])


class WhatIsTold(unittest.TestCase):
    def test_one_square(self):
        given = ask(("begin", 1), "corners", "holes", "rows", "name", "selves", "state")
        self.assertEqual(given, [[0], [1, 1], [1], [1, 1], [2, 0, 0], [1], [1, 0, 0]])

    def test_an_ell(self):
        self.assertEqual(ask_of(*ELL, "corners", "holes", "rows"), [[1, 3], [2], [2, 2, 1]])

    def test_six_in_one_row(self):
        given = ask(("begin", 6), "corners", "holes", "rows")
        self.assertEqual(given, [[0], [6, 1, 1, 1, 1, 1, 1], [1], [1, 6]])

    def test_two_and_three_holes(self):
        self.assertEqual(ask_of([1, 2, 3, 0], [3, 2, 1, 0], "corners", "holes"), [[2, 2, 2], [2]])
        self.assertEqual(ask_of([1, 2, 3, 4, 0], [1, 0, 3, 2, 4], "corners", "holes"), [[1, 5], [3]])

    def test_rows_by_their_least_square(self):
        self.assertEqual(ask_of(*SIX, "rows")[0], [3, 2, 1, 3])
        self.assertEqual(ask_of([0, 4, 3, 5, 1, 2], [1, 2, 3, 4, 5, 0], "rows")[0], [3, 1, 2, 3])

    def test_corners_by_their_least_square(self):
        # Once round from 0 comes 0; from 1 comes 3, then 2, then 1.
        self.assertEqual(ask_of([0, 1, 3, 2], [1, 2, 0, 3], "corners")[0], [2, 1, 3])
        # Once round from 0 comes 3, then 2, then 0; from 1 comes 1.
        self.assertEqual(ask_of([0, 1, 3, 2], [2, 0, 1, 3], "corners")[0], [2, 3, 1])
        self.assertEqual(ask_of(*SIX, "corners")[0], [2, 5, 1])

    def test_all_of_four_squares_or_fewer(self):
        for count in (1, 2, 3, 4):
            for east, north in surfaces(count):
                given = ask_of(east, north, "corners", "holes", "rows", "state")
                ends = corners(east, north)
                self.assertEqual(given[0], [len(ends)] + ends, (east, north))
                self.assertEqual(2 * given[1][0], count - len(ends) + 2, (east, north))
                self.assertEqual(given[2], [len(rounds(east))] + rounds(east), (east, north))
                self.assertEqual(given[3], table(east, north))

    def test_asking_changes_nothing(self):
        asked = ["corners", "holes", "rows", "name", "selves", "state"]
        given = ask_of(*SIX, *asked, *asked)
        self.assertEqual(given[:6], given[6:])
        self.assertEqual(given[5], table(*SIX))


if __name__ == "__main__":
    unittest.main()
