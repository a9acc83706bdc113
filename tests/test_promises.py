"""Points 1 and 2 over the whole program, and the interface: what is handed in, what is told, what is refused first."""

import inspect
import itertools
import unittest

from figurefall import counts, errors, falls, figures, house, leasts, places, walks
from figurefall.counts import counts_below, counts_one_by_one, many_of, spread_of
from figurefall.errors import BadBase, BadFigure, BadLength, BadNumber, BadRow, BadTarget, BadWorth
from figurefall.errors import HouseFull, NameTaken, NoPlace, NoRing, NotKept, NothingTold
from figurefall.falls import fall_of
from figurefall.figures import figures_of, number_of, read, written
from figurefall.house import House
from figurefall.leasts import least_of, sums_to
from figurefall.places import number_at, place_of
from figurefall.walks import bound_of, ring_of, rings_of, walk_of
from plain import GREAT

SQUARES = [0, 1, 4, 9, 16, 25, 36, 49]
OTHER = [3, 50, 0, 7, 7, 21, 2, 40]

# The order of the document.
REFUSALS = (
    NotKept, NameTaken, HouseFull, BadBase, BadFigure, BadRow, BadWorth, BadNumber, NoRing, NoPlace, BadLength,
    BadTarget, NothingTold,
)

# Each question that can be asked of a book but number_at, with arguments that are good for both books above.
QUESTIONS = {
    "fall_of": (fall_of, (1234,)),
    "walk_of": (walk_of, (1234,)),
    "ring_of": (ring_of, (1234,)),
    "bound_of": (bound_of, ()),
    "rings_of": (rings_of, ()),
    "counts_below": (counts_below, (8 ** 20,)),
    "counts_one_by_one": (counts_one_by_one, (345,)),
    "spread_of": (spread_of, (3,)),
    "many_of": (many_of, (3, 50)),
    "place_of": (place_of, (8 ** 19 + 5,)),
    "sums_to": (sums_to, (77,)),
    "least_of": (least_of, (77,)),
}


# The two books have different rings, so each is asked for a number of its own first one.
def ask_number_at(row):
    return number_at(row, rings_of(row)[0][0], 0)


# Each question that takes a row of worths, as a function of that row alone.
ASKED_OF_A_BOOK = {name: lambda row, ask=ask, rest=rest: ask(row, *rest) for name, (ask, rest) in QUESTIONS.items()}
ASKED_OF_A_BOOK["number_at"] = ask_number_at

# Each question whose answer holds lists.
ASKED_FOR_LISTS = {
    "figures_of": lambda: figures_of(2026, 7),
    "figures_of nought": lambda: figures_of(0, 2),
    "walk_of": lambda: walk_of(SQUARES, 2),
    "ring_of": lambda: ring_of(SQUARES, 2),
    "ring_of on the ring": lambda: ring_of(SQUARES, 4),
    "rings_of": lambda: rings_of(SQUARES),
    "counts_below": lambda: counts_below(SQUARES, 5000),
    "counts_one_by_one": lambda: counts_one_by_one(SQUARES, 500),
    "spread_of": lambda: spread_of(SQUARES, 2),
    "sums_to": lambda: sums_to(SQUARES, 30),
    "sums_to 0": lambda: sums_to(SQUARES, 0),
}


def house_with_both():
    made = House()
    made.keep("squares", SQUARES)
    made.keep("other", OTHER)
    made.tell("squares", 3, 8)
    made.tell("squares", 3, 9)
    return made


def asked_of(made):
    """Each question whose answer holds lists, asked of a house."""
    return {
        "names": made.names,
        "worths_of": lambda: made.worths_of("squares"),
        "tellings": lambda: made.tellings("squares"),
        "walk_of": lambda: made.walk_of("squares", 2),
        "ring_of": lambda: made.ring_of("squares", 2),
        "rings_of": lambda: made.rings_of("squares"),
        "counts_below": lambda: made.counts_below("squares", 5000),
        "counts_one_by_one": lambda: made.counts_one_by_one("squares", 500),
        "spread_of": lambda: made.spread_of("squares", 2),
        "sums_to": lambda: made.sums_to("squares", 30),
    }


def all_kept(made):
    return frozen([(name, made.worths_of(name), made.tellings(name)) for name in made.names()])


def frozen(told):
    """The same without any list that could be changed."""
    if isinstance(told, (list, tuple)):
        return (type(told), tuple(frozen(part) for part in told))
    return told


def lists_within(told):
    found = [told] if isinstance(told, list) else []
    if isinstance(told, (list, tuple)):
        for part in told:
            found.extend(lists_within(part))
    return found


def spoil(told):
    for one in lists_within(told):
        one.append(777)
        one[0] = 888


class WhatIsHandedIn(unittest.TestCase):
    def test_every_question_of_a_book_is_asked_here(self):
        told = {name for name, part in inspect.getmembers(House, inspect.isfunction) if not name.startswith("_")}
        told -= {"keep", "drop", "names", "worths_of", "tell", "take_back", "tellings", "book_of"}
        self.assertEqual(set(ASKED_OF_A_BOOK), told)

    def test_no_row_of_worths_is_changed(self):
        for name, ask in ASKED_OF_A_BOOK.items():
            row = list(SQUARES)
            ask(row)
            with self.subTest(name=name):
                self.assertEqual(row, SQUARES)

    def test_no_row_of_figures_is_changed(self):
        row = [5, 6, 2, 3]
        number_of(row, 7)
        self.assertEqual(row, [5, 6, 2, 3])

    def test_nothing_is_changed_where_it_is_refused(self):
        for ask in ASKED_OF_A_BOOK.values():
            for bad in ([1, 2, 51], [3], [9] * 17):
                row = list(bad)
                with self.assertRaises(ValueError):
                    ask(row)
                self.assertEqual(row, bad)
        for bad in ([1, 2, 9], [0, 1], [1] * 1002):
            row = list(bad)
            with self.assertRaises(ValueError):
                number_of(row, 3)
            self.assertEqual(row, bad)

    def test_lists_and_tuples_are_answered_alike(self):
        for name, ask in ASKED_OF_A_BOOK.items():
            for row in (SQUARES, OTHER):
                with self.subTest(name=name):
                    self.assertEqual(frozen(ask(list(row))), frozen(ask(tuple(row))))
        self.assertEqual(number_of([5, 6, 2, 3], 7), number_of((5, 6, 2, 3), 7))

    def test_a_list_changed_behind_the_call_has_no_effect(self):
        for name, ask in ASKED_OF_A_BOOK.items():
            ahead = frozen(ask(tuple(SQUARES)))
            other = frozen(ask(tuple(OTHER)))
            row = list(SQUARES)
            told = ask(row)
            row[:] = OTHER
            with self.subTest(name=name):
                self.assertEqual(frozen(told), ahead)
                self.assertEqual(frozen(ask(list(SQUARES))), ahead)
                self.assertEqual(frozen(ask(row)), other)

    def test_a_row_of_figures_changed_behind_the_call_has_no_effect(self):
        row = [1, 2]
        self.assertEqual(number_of(row, 3), 5)
        row.append(1)
        self.assertEqual(number_of(row, 3), 16)
        self.assertEqual(number_of([1, 2], 3), 5)

    def test_a_house_holds_on_to_no_row(self):
        made = House()
        row = list(SQUARES)
        made.keep("one", row)
        made.keep("two", row)
        row[1] = 40
        row.append(3)
        self.assertEqual([made.worths_of("one"), made.worths_of("two")], [SQUARES, SQUARES])
        self.assertEqual(made.fall_of("one", 1), 1)
        made.tell("one", 1, 30)
        self.assertEqual(made.worths_of("two"), SQUARES)
        self.assertEqual(row, [0, 40, 4, 9, 16, 25, 36, 49, 3])

    def test_a_house_changes_no_row_that_was_handed_in(self):
        made = House()
        row = list(SQUARES)
        made.keep("one", row)
        made.tell("one", 0, 9)
        made.tell("one", 7, 9)
        made.take_back("one")
        made.rings_of("one")
        made.drop("one")
        self.assertEqual(row, SQUARES)


class WhatIsTold(unittest.TestCase):
    def test_the_same_question_has_the_same_answer_twice(self):
        for name, ask in ASKED_OF_A_BOOK.items():
            first = frozen(ask(SQUARES))
            ask(OTHER)
            with self.subTest(name=name):
                self.assertEqual(frozen(ask(SQUARES)), first)
        for name, ask in ASKED_FOR_LISTS.items():
            with self.subTest(name=name):
                self.assertEqual(frozen(ask()), frozen(ask()))
        for ask in (lambda: number_of([1, 2], 3), lambda: written(2026, 16), lambda: read("7ea", 16)):
            self.assertEqual(ask(), ask())

    def test_no_list_is_told_twice(self):
        for name, ask in ASKED_FOR_LISTS.items():
            both = lists_within([ask(), ask()])
            with self.subTest(name=name):
                self.assertEqual(len({id(one) for one in both}), len(both))

    def test_whoever_changes_an_answer_changes_no_other(self):
        for name, ask in ASKED_FOR_LISTS.items():
            told = ask()
            kept = ask()
            ahead = frozen(kept)
            spoil(told)
            with self.subTest(name=name):
                self.assertEqual(frozen(kept), ahead)
                self.assertEqual(frozen(ask()), ahead)

    def test_the_same_of_a_house(self):
        made = house_with_both()
        for name, ask in asked_of(made).items():
            told = ask()
            kept = ask()
            ahead = frozen(kept)
            both = lists_within([told, kept])
            with self.subTest(name=name):
                self.assertEqual(frozen(told), ahead)
                self.assertEqual(len({id(one) for one in both}), len(both))
                spoil(told)
                self.assertEqual(frozen(kept), ahead)
                self.assertEqual(frozen(ask()), ahead)
                self.assertEqual(all_kept(made), all_kept(house_with_both()))

    def test_two_houses_share_nothing(self):
        one = house_with_both()
        other = House()
        self.assertEqual(other.names(), [])
        other.keep("squares", OTHER)
        other.tell("squares", 0, 11)
        one.tell("other", 0, 12)
        one.drop("squares")
        self.assertEqual(other.names(), ["squares"])
        self.assertEqual(other.worths_of("squares"), [11] + OTHER[1:])
        self.assertEqual(other.tellings("squares"), [(0, 3, 11)])
        self.assertEqual(one.names(), ["other"])
        self.assertEqual(one.worths_of("other"), [12] + OTHER[1:])
        self.assertRaises(NotKept, other.worths_of, "other")
        self.assertEqual(House().names(), [])

    def test_questions_change_nothing_in_a_house(self):
        made = house_with_both()
        for name, (ask, rest) in QUESTIONS.items():
            getattr(made, name)("squares", *rest)
        made.number_at("squares", 1, 5)
        self.assertEqual(all_kept(made), all_kept(house_with_both()))


# What can be handed in for an argument, each with the refusals that are due for it.
BASES = [(8, ()), (-1, (BadBase,)), (1, (BadBase,)), (17, (BadBase,)), (GREAT, (BadBase,))]
NUMBERS = [(5, ()), (0, ()), (-1, (BadNumber,)), (-GREAT, (BadNumber,)), (GREAT, (BadNumber,))]
FIGURE_ROWS = [
    ([1, 0], ()), ([0], ()), ([], (BadRow,)), ([0, 1], (BadRow,)), ([1] * 1002, (BadRow,)), ([-1], (BadFigure,)),
    ([1, 16], (BadFigure,)), ([0, -1], (BadFigure, BadRow)), ([1] * 1001 + [GREAT], (BadFigure, BadRow)),
]
TEXTS = [
    ("10", ()), ("0", ()), ("", (BadRow,)), ("01", (BadRow,)), ("1" * 1002, (BadRow,)), ("-1", (BadFigure,)),
    ("1g", (BadFigure,)), ("0A", (BadFigure, BadRow)), ("1" * 1001 + " ", (BadFigure, BadRow)),
]
WORTHS = [
    (SQUARES, ()), (tuple(SQUARES), ()), ([], (BadBase,)), ([1], (BadBase,)), ((1,) * 17, (BadBase,)),
    ([-1], (BadBase, BadWorth)), ([51] * 17, (BadBase, BadWorth)), ([1] * 16 + [GREAT], (BadBase, BadWorth)),
    ([1, -1], (BadWorth,)), ((51, 1, 1), (BadWorth,)), ([3] * 15 + [51], (BadWorth,)), ([GREAT] * 8, (BadWorth,)),
    ([-GREAT] * 8, (BadWorth,)),
]
COUNTED = [(0, ()), (8 ** 20 - 1, ()), (-1, (BadNumber,)), (16 ** 20 + 1, (BadNumber,)), (GREAT, (BadNumber,))]
ONE_BY_ONE = [(0, ()), (9, ()), (-1, (BadNumber,)), (3001, (BadNumber,)), (GREAT, (BadNumber,))]
LEASTS = [(1, ()), (2, (NoRing,)), (-1, (NoRing,)), (GREAT, (NoRing,))]
PLACES = [(0, ()), (7, ()), (-1, (NoPlace,)), (16 ** 20, (NoPlace,)), (-GREAT, (NoPlace,)), (GREAT, (NoPlace,))]
LENGTHS = [(1, ()), (20, ()), (0, (BadLength,)), (-1, (BadLength,)), (21, (BadLength,)), (GREAT, (BadLength,))]
TARGETS = [(0, ()), (1000, ()), (-1, (BadTarget,)), (1001, (BadTarget,)), (GREAT, (BadTarget,))]
NAMES = [("squares", ()), ("", (NotKept,)), ("Squares", (NotKept,))]
FIGURES = [(0, ()), (7, ()), (-1, (BadFigure,)), (8, (BadFigure,)), (GREAT, (BadFigure,)), (-GREAT, (BadFigure,))]
ONE_WORTH = [(0, ()), (50, ()), (-1, (BadWorth,)), (51, (BadWorth,)), (GREAT, (BadWorth,)), (-GREAT, (BadWorth,))]

# What each question takes besides the book.
BESIDES = {
    "fall_of": (NUMBERS,), "walk_of": (NUMBERS,), "ring_of": (NUMBERS,), "bound_of": (), "rings_of": (),
    "counts_below": (COUNTED,), "counts_one_by_one": (ONE_BY_ONE,), "spread_of": (LENGTHS,),
    "many_of": (LENGTHS, TARGETS), "place_of": (COUNTED,), "number_at": (LEASTS, PLACES), "sums_to": (TARGETS,),
    "least_of": (TARGETS,),
}


class Refusals(unittest.TestCase):
    def try_all(self, ask, arguments, due_already=(), behind_each=lambda: None):
        """Calls with everything that can be handed in, and looks for the refusal that stands first in the document."""
        for handed in itertools.product(*arguments):
            due = set(due_already).union(*[refusals for value, refusals in handed])
            values = [value for value, refusals in handed]
            with self.subTest(ask=ask.__name__, due=sorted(refusal.__name__ for refusal in due)):
                if due:
                    with self.assertRaises(errors.FallError) as taken:
                        ask(*values)
                    self.assertIs(type(taken.exception), min(due, key=REFUSALS.index))
                else:
                    ask(*values)
            behind_each()

    def test_figures(self):
        self.try_all(figures_of, (NUMBERS, BASES))
        self.try_all(written, (NUMBERS, BASES))
        self.try_all(number_of, (FIGURE_ROWS, BASES))
        self.try_all(read, (TEXTS, BASES))

    def test_every_question_of_a_book(self):
        self.assertEqual(set(BESIDES), set(ASKED_OF_A_BOOK))
        for module in (falls, walks, counts, places, leasts):
            for name in INTERFACE[module]:
                self.try_all(getattr(module, name), (WORTHS,) + BESIDES[name])

    def test_every_question_of_a_kept_book(self):
        made = house_with_both()
        ahead = all_kept(made)
        for name, besides in BESIDES.items():
            self.try_all(getattr(made, name), (NAMES,) + besides)
        self.assertEqual(all_kept(made), ahead)

    def test_every_question_of_an_empty_house(self):
        made = House()
        for name, besides in BESIDES.items():
            self.try_all(getattr(made, name), (NAMES,) + besides, due_already=(NotKept,))
        for ask in (made.drop, made.worths_of, made.tellings, made.take_back):
            self.try_all(ask, (NAMES,), due_already=(NotKept,))
        self.try_all(made.tell, (NAMES, FIGURES, ONE_WORTH), due_already=(NotKept,))
        self.assertEqual(made.names(), [])

    def test_what_a_house_tells(self):
        made = house_with_both()
        for ask in (made.worths_of, made.tellings):
            self.try_all(ask, (NAMES,))
        self.assertEqual(all_kept(made), all_kept(house_with_both()))

    def test_drop_and_take_back(self):
        made = house_with_both()
        ahead = all_kept(made)
        self.try_all(made.take_back, (NAMES[1:],))
        self.try_all(made.drop, (NAMES[1:],))
        self.assertEqual(all_kept(made), ahead)
        made.take_back("squares")
        made.take_back("squares")
        ahead = all_kept(made)
        self.try_all(made.take_back, (NAMES,), due_already=(NothingTold,))
        self.assertEqual(all_kept(made), ahead)

    def test_tell(self):
        made = house_with_both()
        self.try_all(made.tell, (NAMES, FIGURES, ONE_WORTH))
        # Of the figures and of the worths two each are good, and all of these were tellings.
        self.assertEqual(len(made.tellings("squares")), 2 + 4)
        ahead = all_kept(made)
        self.try_all(made.tell, (NAMES, FIGURES[2:], ONE_WORTH))
        self.try_all(made.tell, (NAMES, FIGURES, ONE_WORTH[2:]))
        self.try_all(made.tell, (NAMES[1:], FIGURES, ONE_WORTH))
        self.assertEqual(all_kept(made), ahead)

    def test_keep(self):
        made = house_with_both()

        def drop_new():
            for name in made.names()[2:]:
                made.drop(name)

        taken = [("new", ()), ("squares", (NameTaken,)), ("other", (NameTaken,))]
        self.try_all(made.keep, (taken, WORTHS), behind_each=drop_new)
        self.assertEqual(all_kept(made), all_kept(house_with_both()))
        for book in range(18):
            made.keep(f"book {book}", [book] * 3)
        ahead = all_kept(made)
        self.try_all(made.keep, (taken, WORTHS), due_already=(HouseFull,))
        self.assertEqual(all_kept(made), ahead)


INTERFACE = {
    figures: {
        "figures_of": ["number", "base"], "number_of": ["row", "base"],
        "written": ["number", "base"], "read": ["text", "base"],
    },
    falls: {"fall_of": ["worths", "number"]},
    walks: {
        "walk_of": ["worths", "number"], "ring_of": ["worths", "number"],
        "bound_of": ["worths"], "rings_of": ["worths"],
    },
    counts: {
        "counts_below": ["worths", "limit"], "counts_one_by_one": ["worths", "limit"],
        "spread_of": ["worths", "length"], "many_of": ["worths", "length", "target"],
    },
    places: {"place_of": ["worths", "number"], "number_at": ["worths", "least", "place"]},
    leasts: {"sums_to": ["worths", "target"], "least_of": ["worths", "target"]},
}
METHODS = {
    "keep": ["name", "worths"], "drop": ["name"], "names": [], "worths_of": ["name"],
    "tell": ["name", "figure", "worth"], "take_back": ["name"], "tellings": ["name"],
}


class Interface(unittest.TestCase):
    def test_names_and_arguments(self):
        for module, functions in INTERFACE.items():
            for name, arguments in functions.items():
                with self.subTest(name=name):
                    self.assertEqual(list(inspect.signature(getattr(module, name)).parameters), arguments)

    def test_methods_of_a_house(self):
        methods = dict(METHODS)
        for functions in INTERFACE.values():
            for name, arguments in functions.items():
                if arguments[0] == "worths":
                    methods[name] = ["name"] + arguments[1:]
        self.assertEqual(len(methods), 7 + 13)
        for name, arguments in methods.items():
            with self.subTest(name=name):
                self.assertEqual(list(inspect.signature(getattr(House(), name)).parameters), arguments)
        self.assertEqual(list(inspect.signature(House).parameters), [])

    def test_constants(self):
        self.assertEqual((house.MOST_BOOKS, house.MOST_KEPT), (20, 200))
        self.assertEqual((counts.MOST_COUNTED, counts.MOST_ONE_BY_ONE, counts.MOST_TARGET), (20, 3000, 1000))

    def test_kinds(self):
        self.assertIs(type(figures_of(9, 3)), list)
        self.assertIs(type(number_of((1, 2), 3)), int)
        self.assertIs(type(written(9, 3)), str)
        self.assertIs(type(read("12", 3)), int)
        self.assertIs(type(fall_of((1, 2), 3)), int)
        self.assertIs(type(walk_of((1, 2), 3)), list)
        self.assertIs(type(ring_of((1, 2), 3)), tuple)
        self.assertIs(type(bound_of((1, 2))), int)
        self.assertEqual({type(ring) for ring in rings_of((1, 2))}, {list})

    def test_kinds_of_counts_places_and_leasts(self):
        for told in (counts_below((1, 2), 9), counts_one_by_one((1, 2), 9), spread_of((1, 2), 3)):
            self.assertIs(type(told), list)
            self.assertEqual({type(one) for one in told}, {int})
        self.assertIs(type(many_of((1, 2), 3, 4)), int)
        self.assertIs(type(many_of((1, 2), 1, 1000)), int)
        self.assertIs(type(place_of((1, 2), 3)), int)
        self.assertIs(type(number_at((0, 0), 0, 3)), int)
        self.assertIs(type(sums_to((0, 2), 3)), list)
        self.assertEqual([type(one) for one in sums_to((0, 2), 3)], [int, type(None), int, type(None)])
        self.assertIs(type(least_of((0, 2), 4)), int)
        self.assertIsNone(least_of((0, 2), 3))

    def test_kinds_of_a_house(self):
        made = House()
        self.assertIsNone(made.keep("one", (1, 2)))
        self.assertEqual((type(made.names()), made.names()), (list, ["one"]))
        self.assertEqual((type(made.worths_of("one")), made.worths_of("one")), (list, [1, 2]))
        self.assertIs(type(made.tell("one", 1, 3)), int)
        self.assertIs(type(made.tellings("one")), list)
        self.assertEqual([type(telling) for telling in made.tellings("one")], [tuple])
        self.assertIs(type(made.take_back("one")), tuple)
        self.assertIsNone(made.drop("one"))


if __name__ == "__main__":
    unittest.main()
