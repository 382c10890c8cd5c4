"""The one function: what it takes, gives back and leaves alone."""

import contextlib
import io
import unittest

from tests.helper import GREATEST, ask, split, table, told
from shearedsquares.squares import answers

ELL = ([1, 0, 2], [2, 1, 0])
MANY = told(
    "state", ("begin", 7), ("begin", 3), ("glue", *ELL), "corners", "holes", "rows", "name", "selves", "state",
    ("do", [0, 2, 1]), "state", ("do", [3]), ("glue", [0, 1, 2], [0, 1, 2]), ("glue", [], [GREATEST]), "state",
    "orbit", "wheels", "wheel", ("way", [2, 0, 1], [1, 0, 2]), ("reaches", [1, 2, 0], [0, 1, 2]), "least", "place",
    ("fixes", [0, 2]), "halfturn", ("way", [1, 2, 0], [0, 1, 2]), ("way", [0], [1, 1]), ("fixes", [0] * 31), "state",
)


class Untouched(list):
    """A list that can be read alone."""

    def refuse(self, *given):
        raise AssertionError("what is handed in was changed")

    append = extend = insert = pop = remove = clear = sort = reverse = refuse
    __setitem__ = __delitem__ = __iadd__ = __imul__ = refuse


class WhatIsHandedIn(unittest.TestCase):
    def test_it_is_the_same_afterwards(self):
        handed = list(MANY)
        answers(handed)
        self.assertEqual(handed, MANY)

    def test_it_is_not_changed_for_a_while_either(self):
        self.assertEqual(answers(Untouched(MANY)), answers(list(MANY)))

    def test_what_is_given_back_is_another_list(self):
        handed = list(MANY)
        answers(handed).append(5)
        self.assertEqual(handed, MANY)


class NothingIsKept(unittest.TestCase):
    def test_the_same_list_twice(self):
        handed = list(MANY)
        self.assertEqual(answers(handed), answers(handed))

    def test_nothing_comes_from_another_list(self):
        first = answers(MANY)
        self.assertEqual(ask(("begin", 6), ("do", [0])), [[0], [1]])
        self.assertEqual(ask("state", "name"), [[-11], [-11]])
        self.assertEqual(answers(MANY), first)

    def test_changing_what_was_given_back_changes_nothing(self):
        first = answers(MANY)
        kept = list(first)
        first.clear()
        self.assertEqual(answers(MANY), kept)

    def test_nothing_is_printed(self):
        out, err = io.StringIO(), io.StringIO()
        with contextlib.redirect_stdout(out), contextlib.redirect_stderr(err):
            answers(MANY)
        self.assertEqual(out.getvalue() + err.getvalue(), "")


class WhatIsGivenBack(unittest.TestCase):
    def test_a_list_of_whole_numbers(self):
        given = answers(MANY)
        self.assertIs(type(given), list)
        self.assertEqual({type(number) for number in given}, {int})

    def test_number_by_number(self):
        self.assertEqual(answers([7]), [1, -11])
        self.assertEqual(
            answers([0, 3, 1, 3, 1, 0, 2, 3, 2, 1, 0, 2, 3, 4, 5, 6, 7, 8, 1, 2, 7, 8, 0]),
            [
                1, 0,
                1, 1,
                2, 1, 3,
                1, 2,
                3, 2, 2, 1,
                7, 6, 0, 2, 1, 1, 0, 2,
                1, 1,
                7, 3, 1, 0, 2, 2, 1, 0,
                1, 1,
                7, 3, 2, 1, 0, 1, 0, 2,
                1, 0,
            ],
        )

    def test_nothing_but_refusals_is_below_nought(self):
        for answer in split(answers(MANY)):
            self.assertTrue(answer in ([-11], [-22], [-33], [-34]) or min(answer) >= 0)


class Edges(unittest.TestCase):
    def test_thirty_calls(self):
        given = ask(("begin", 6), *[("do", [0]), "state"] * 14, "name")
        self.assertEqual(len(given), 30)
        # Sheared fourteen times is sheared twice, as six shears of this row change nothing.
        self.assertEqual(given[28], table([1, 2, 3, 4, 5, 0], [4, 5, 0, 1, 2, 3]))

    def test_the_longest_list(self):
        row = [GREATEST] * 255
        handed = told(*[("glue", row, row)] * 30)
        self.assertEqual(len(handed), 15390)
        self.assertEqual(answers(handed), [1, -11] * 30)
        given = ask(("begin", 6), *[("glue", row, row)] * 28, "state")
        self.assertEqual(given, [[0]] + [[-22]] * 28 + [table([1, 2, 3, 4, 5, 0], range(6))])

    def test_numbers_within_rows_are_not_calls(self):
        given = ask(("begin", 3), ("glue", [0] * 255, [7] * 255), ("do", [0, 2]), ("glue", [], []), "state")
        self.assertEqual(given, [[0], [-22], [2], [-22], table([1, 2, 0], [1, 2, 0])])

    def test_refusals_behind_good_calls_change_nothing(self):
        wrong = [
            ("begin", 0), ("begin", 7), ("begin", GREATEST), ("glue", [0], [0]), ("glue", [0, 1, 2], [0, 1, 2]),
            ("glue", [0, 1, 2], [0, 1, GREATEST]), ("do", [0] * 31), ("do", [0, 3]), ("do", [GREATEST] * 255),
        ]
        asked = ["corners", "holes", "rows", "name", "selves", "state"]
        for call in wrong:
            given = ask(("begin", 3), ("glue", *ELL), *asked, call, *asked)
            self.assertLess(given[8][0], 0)
            self.assertEqual(given[2:8], given[9:])
            self.assertEqual(given[7], table(*ELL))

    def test_none_of_the_calls_that_look_ahead_changes_anything(self):
        row = ([1, 2, 0], [0, 1, 2])
        calls = [
            "orbit", "wheels", "wheel", "least", "place", "halfturn", ("fixes", []), ("fixes", [0, 2, 1]),
            ("fixes", [2] * 30), ("fixes", [3]), ("fixes", [0] * 31),
        ]
        for kind in ("way", "reaches"):
            calls += [(kind, *ELL), (kind, [2, 0, 1], [1, 0, 2]), (kind, *row), (kind, [0], []), (kind, row[1], row[1])]
        asked = ["name", "corners", "state"]
        for call in calls:
            for begun in (("glue", *ELL), ("do", [0, 2])):
                given = ask(("begin", 3), begun, *asked, call, *asked)
                self.assertEqual(given[2:5], given[6:], call)


if __name__ == "__main__":
    unittest.main()
