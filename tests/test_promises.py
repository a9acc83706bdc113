"""Points 1 and 2 over all functions, and the interface: what is handed in, what is told, which refusal comes first."""

import inspect
import unittest

from figurefall import falls, figures, walks
from figurefall.errors import BadBase, BadFigure, BadNumber, BadRow, BadWorth
from figurefall.falls import fall_of
from figurefall.figures import figures_of, number_of, read, written
from figurefall.walks import bound_of, ring_of, rings_of, walk_of
from plain import GREAT

SQUARES = [0, 1, 4, 9, 16, 25, 36, 49]
OTHER = [3, 50, 0, 7, 7, 21, 2, 40]

# Each question that takes a list, as a function of that list alone.
ASKED_OF_A_BOOK = {
    "fall_of": lambda row: fall_of(row, 1234),
    "walk_of": lambda row: walk_of(row, 1234),
    "ring_of": lambda row: ring_of(row, 1234),
    "bound_of": bound_of,
    "rings_of": rings_of,
}

# Each question whose answer holds lists.
ASKED_FOR_LISTS = {
    "figures_of": lambda: figures_of(2026, 7),
    "figures_of nought": lambda: figures_of(0, 2),
    "walk_of": lambda: walk_of(SQUARES, 2),
    "ring_of": lambda: ring_of(SQUARES, 2),
    "ring_of on the ring": lambda: ring_of(SQUARES, 4),
    "rings_of": lambda: rings_of(SQUARES),
}


def frozen(told):
    """The same without any list that could be changed."""
    if isinstance(told, (list, tuple)):
        return (type(told), tuple(frozen(part) for part in told))
    return told


def lists_within(told):
    found = [told] if isinstance(told, list) else []
    if isinstance(told, (list, tuple)):
        for part in told:
            found.extend(lists_within(part))
    return found


class WhatIsHandedIn(unittest.TestCase):
    def test_no_row_of_worths_is_changed(self):
        for name, ask in ASKED_OF_A_BOOK.items():
            row = list(SQUARES)
            ask(row)
            with self.subTest(name=name):
                self.assertEqual(row, SQUARES)

    def test_no_row_of_figures_is_changed(self):
        row = [5, 6, 2, 3]
        number_of(row, 7)
        self.assertEqual(row, [5, 6, 2, 3])

    def test_nothing_is_changed_where_it_is_refused(self):
        for ask in ASKED_OF_A_BOOK.values():
            for bad in ([1, 2, 51], [3], [9] * 17):
                row = list(bad)
                with self.assertRaises(ValueError):
                    ask(row)
                self.assertEqual(row, bad)
        for bad in ([1, 2, 9], [0, 1], [1] * 1002):
            row = list(bad)
            with self.assertRaises(ValueError):
                number_of(row, 3)
            self.assertEqual(row, bad)

    def test_lists_and_tuples_are_answered_alike(self):
        for name, ask in ASKED_OF_A_BOOK.items():
            for row in (SQUARES, OTHER):
                with self.subTest(name=name):
                    self.assertEqual(frozen(ask(list(row))), frozen(ask(tuple(row))))
        self.assertEqual(number_of([5, 6, 2, 3], 7), number_of((5, 6, 2, 3), 7))

    def test_a_list_changed_behind_the_call_has_no_effect(self):
        for name, ask in ASKED_OF_A_BOOK.items():
            ahead = frozen(ask(tuple(SQUARES)))
            other = frozen(ask(tuple(OTHER)))
            row = list(SQUARES)
            told = ask(row)
            row[:] = OTHER
            with self.subTest(name=name):
                self.assertEqual(frozen(told), ahead)
                self.assertEqual(frozen(ask(list(SQUARES))), ahead)
                self.assertEqual(frozen(ask(row)), other)

    def test_a_row_of_figures_changed_behind_the_call_has_no_effect(self):
        row = [1, 2]
        self.assertEqual(number_of(row, 3), 5)
        row.append(1)
        self.assertEqual(number_of(row, 3), 16)
        self.assertEqual(number_of([1, 2], 3), 5)


class WhatIsTold(unittest.TestCase):
    def test_the_same_question_has_the_same_answer_twice(self):
        for name, ask in ASKED_OF_A_BOOK.items():
            first = frozen(ask(SQUARES))
            ask(OTHER)
            with self.subTest(name=name):
                self.assertEqual(frozen(ask(SQUARES)), first)
        for name, ask in ASKED_FOR_LISTS.items():
            with self.subTest(name=name):
                self.assertEqual(frozen(ask()), frozen(ask()))
        for ask in (lambda: number_of([1, 2], 3), lambda: written(2026, 16), lambda: read("7ea", 16)):
            self.assertEqual(ask(), ask())

    def test_no_list_is_told_twice(self):
        for name, ask in ASKED_FOR_LISTS.items():
            both = lists_within([ask(), ask()])
            with self.subTest(name=name):
                self.assertEqual(len({id(one) for one in both}), len(both))

    def test_whoever_changes_an_answer_changes_no_other(self):
        for name, ask in ASKED_FOR_LISTS.items():
            told = ask()
            kept = ask()
            ahead = frozen(kept)
            for one in lists_within(told):
                one.append(777)
                one[0] = 888
            with self.subTest(name=name):
                self.assertEqual(frozen(kept), ahead)
                self.assertEqual(frozen(ask()), ahead)


class Refusals(unittest.TestCase):
    def assert_refused(self, refusal, ask, *handed):
        with self.assertRaises(refusal) as taken:
            ask(*handed)
        self.assertIs(type(taken.exception), refusal)

    def test_a_bad_base_comes_first(self):
        for base in (-GREAT, -1, 0, 1, 17, GREAT):
            for number in (-1, -GREAT, GREAT):
                self.assert_refused(BadBase, figures_of, number, base)
                self.assert_refused(BadBase, written, number, base)
            for row in ([], [-1], [GREAT], [0, 0], [0, -1], [1] * 1002, [-1] * 1002):
                self.assert_refused(BadBase, number_of, row, base)
            for text in ("", "Z", "00", "0-", "1" * 1002, " " * 1002):
                self.assert_refused(BadBase, read, text, base)

    def test_a_bad_figure_comes_ahead_of_a_bad_row(self):
        for row in ([0, 10], [0, -1], [0] + [GREAT] * 2000, [1] * 1001 + [10]):
            self.assert_refused(BadFigure, number_of, row, 10)
        for text in ("0a", "0-", "0" + " " * 2000, "1" * 1001 + "a"):
            self.assert_refused(BadFigure, read, text, 10)

    def test_a_bad_row_of_good_figures(self):
        for row in ([], [0, 0], [0, 9], [9] * 1002):
            self.assert_refused(BadRow, number_of, row, 10)
        for text in ("", "00", "09", "9" * 1002):
            self.assert_refused(BadRow, read, text, 10)

    def test_a_row_of_no_base_comes_ahead_of_its_worths_and_of_the_number(self):
        for row in ([], [1], [-1], [51], [1] * 17, [-1] * 17, [GREAT] * 17):
            for ask in (fall_of, walk_of, ring_of):
                for number in (0, -1, GREAT):
                    self.assert_refused(BadBase, ask, row, number)
            for ask in (bound_of, rings_of):
                self.assert_refused(BadBase, ask, row)

    def test_a_bad_worth_comes_ahead_of_a_bad_number(self):
        for row in ([1, -1], [51, 1], [1] * 15 + [-1], [GREAT] * 3, [-GREAT] * 3):
            for ask in (fall_of, walk_of, ring_of):
                for number in (0, -1, -GREAT, GREAT):
                    self.assert_refused(BadWorth, ask, row, number)
            for ask in (bound_of, rings_of):
                self.assert_refused(BadWorth, ask, row)

    def test_a_bad_number_with_all_else_good(self):
        for number in (-GREAT, -1, 10 ** 1001, GREAT):
            for ask in (fall_of, walk_of, ring_of):
                self.assert_refused(BadNumber, ask, [1] * 10, number)
            for ask in (figures_of, written):
                self.assert_refused(BadNumber, ask, number, 10)


class Interface(unittest.TestCase):
    def test_names_and_arguments(self):
        told = {
            figures: {
                "figures_of": ["number", "base"], "number_of": ["row", "base"],
                "written": ["number", "base"], "read": ["text", "base"],
            },
            falls: {"fall_of": ["worths", "number"]},
            walks: {
                "walk_of": ["worths", "number"], "ring_of": ["worths", "number"],
                "bound_of": ["worths"], "rings_of": ["worths"],
            },
        }
        for module, functions in told.items():
            for name, arguments in functions.items():
                with self.subTest(name=name):
                    self.assertEqual(list(inspect.signature(getattr(module, name)).parameters), arguments)

    def test_kinds(self):
        self.assertIs(type(figures_of(9, 3)), list)
        self.assertIs(type(number_of((1, 2), 3)), int)
        self.assertIs(type(written(9, 3)), str)
        self.assertIs(type(read("12", 3)), int)
        self.assertIs(type(fall_of((1, 2), 3)), int)
        self.assertIs(type(walk_of((1, 2), 3)), list)
        self.assertIs(type(ring_of((1, 2), 3)), tuple)
        self.assertIs(type(bound_of((1, 2))), int)
        self.assertEqual({type(ring) for ring in rings_of((1, 2))}, {list})


if __name__ == "__main__":
    unittest.main()
