"""Points 20 to 24: the house of books."""

import random
import unittest

from figurefall import counts, falls, house, leasts, places, walks
from figurefall.errors import BadBase, BadFigure, BadWorth, FallError, HouseFull, NameTaken, NotKept, NothingTold
from figurefall.house import House
from plain import BASES, GREAT, PlainBook, many_books

TENS = list(range(10))
SQUARES = [0, 1, 4, 9, 16, 25, 36, 49]

# Every question with arguments of each kind, good ones and such as are refused.
QUESTIONS = (
    (falls.fall_of, ((0,), (2026,), (-1,), (GREAT,))),
    (walks.walk_of, ((0,), (2026,), (-1,), (GREAT,))),
    (walks.ring_of, ((0,), (2026,), (-1,), (GREAT,))),
    (walks.bound_of, ((),)),
    (walks.rings_of, ((),)),
    (counts.counts_below, ((0,), (1,), (2026,), (2 ** 20,), (2 ** 20 + 1,), (16 ** 20,), (-1,), (GREAT,))),
    (counts.counts_one_by_one, ((0,), (1,), (202,), (3001,), (-1,))),
    (counts.spread_of, ((1,), (2,), (20,), (0,), (21,), (-1,))),
    (counts.many_of, ((1, 0), (2, 50), (20, 1000), (0, 0), (21, -1), (1, -1), (1, 1001))),
    (places.place_of, ((0,), (2026,), (2 ** 20 - 1,), (2 ** 20,), (16 ** 20,), (-1,))),
    (places.number_at, ((0, 0), (1, 0), (1, 77), (9, 9), (50, 0), (0, -1), (-1, -1), (0, 16 ** 20), (1, GREAT))),
    (leasts.sums_to, ((0,), (77,), (1000,), (1001,), (-1,))),
    (leasts.least_of, ((0,), (77,), (1000,), (1001,), (-1,))),
)


def house_of(**rows):
    made = House()
    for name, row in rows.items():
        made.keep(name, row)
    return made


def answer(ask, *handed):
    """What is told, or the refusal."""
    try:
        return ask(*handed)
    except FallError as refusal:
        return type(refusal)


def all_answers(made, name):
    return [answer(getattr(made, ask.__name__), name, *rest) for ask, tried in QUESTIONS for rest in tried]


def all_answers_of_row(row):
    return [answer(ask, row, *rest) for ask, tried in QUESTIONS for rest in tried]


class Keeping(unittest.TestCase):
    def test_a_new_house_keeps_nothing(self):
        self.assertEqual(House().names(), [])

    def test_constants(self):
        self.assertEqual((house.MOST_BOOKS, house.MOST_KEPT), (20, 200))

    def test_names_in_the_order_of_keeping(self):
        made = House()
        for name in ("pear", "apple", "quince", "fig"):
            made.keep(name, TENS)
        self.assertEqual(made.names(), ["pear", "apple", "quince", "fig"])
        made.drop("apple")
        self.assertEqual(made.names(), ["pear", "quince", "fig"])
        made.keep("apple", TENS)
        self.assertEqual(made.names(), ["pear", "quince", "fig", "apple"])
        made.drop("pear")
        made.keep("pear", TENS)
        self.assertEqual(made.names(), ["quince", "fig", "apple", "pear"])

    def test_telling_does_not_change_the_order(self):
        made = house_of(one=TENS, two=TENS)
        made.tell("one", 1, 1)
        made.take_back("one")
        self.assertEqual(made.names(), ["one", "two"])

    def test_names_that_differ_in_any_sign(self):
        made = House()
        kept = ["", " ", "  ", "a", "A", "a ", " a", "~", "a" * 40, "a" * 39 + "b", "0", "00", "None", "-"]
        for worth, name in enumerate(kept):
            made.keep(name, [worth, worth])
        self.assertEqual(made.names(), kept)
        for worth, name in enumerate(kept):
            self.assertEqual(made.worths_of(name), [worth, worth])
            self.assertRaises(NameTaken, made.keep, name, TENS)

    def test_every_sign_in_a_name(self):
        signs = [chr(number) for number in range(ord(" "), ord("~") + 1)]
        for start in range(0, len(signs), 20):
            made = House()
            for sign in signs[start:start + 20]:
                made.keep(sign, SQUARES)
            self.assertEqual(made.names(), signs[start:start + 20])

    def test_worths_as_a_list_whatever_was_handed_in(self):
        made = house_of(one=tuple(SQUARES), two=SQUARES)
        self.assertEqual(made.worths_of("one"), SQUARES)
        self.assertEqual(made.worths_of("two"), SQUARES)

    def test_a_name_that_is_taken(self):
        made = house_of(one=TENS)
        for row in (TENS, SQUARES, [], [51], [1, 51], [3] * 17):
            self.assertRaises(NameTaken, made.keep, "one", row)
        self.assertEqual(made.worths_of("one"), TENS)
        self.assertEqual(made.names(), ["one"])

    def test_20_books_and_a_further_one(self):
        made = House()
        for number in range(20):
            made.keep(str(number), [number, number + 1])
        kept = [str(number) for number in range(20)]
        for row in (TENS, [], [51], [1, 51]):
            self.assertRaises(HouseFull, made.keep, "further", row)
            self.assertRaises(NameTaken, made.keep, "7", row)
        self.assertEqual(made.names(), kept)
        self.assertRaises(NotKept, made.worths_of, "further")
        made.drop("7")
        made.keep("further", TENS)
        self.assertEqual(made.names(), kept[:7] + kept[8:] + ["further"])
        self.assertRaises(HouseFull, made.keep, "7", [1, 2])
        self.assertRaises(NotKept, made.drop, "7")

    def test_bad_rows(self):
        made = house_of(one=TENS)
        for row in ([], [1], (1,) * 17, [51], [-1] * 17):
            self.assertRaises(BadBase, made.keep, "two", row)
        for row in ([1, 51], (-1, 1), [1] * 15 + [GREAT], [-GREAT, 0, 0]):
            self.assertRaises(BadWorth, made.keep, "two", row)
        self.assertEqual(made.names(), ["one"])
        made.keep("two", [0, 50])
        self.assertEqual(made.names(), ["one", "two"])

    def test_a_refused_book_takes_no_room(self):
        made = House()
        for number in range(30):
            self.assertRaises(BadWorth, made.keep, str(number), [1, 51])
        for number in range(20):
            made.keep(str(number), [1, 50])
        self.assertEqual(len(made.names()), 20)

    def test_a_name_kept_anew_is_a_new_book(self):
        made = house_of(one=TENS)
        made.tell("one", 3, 33)
        made.drop("one")
        self.assertRaises(NotKept, made.worths_of, "one")
        self.assertRaises(NotKept, made.tellings, "one")
        self.assertRaises(NotKept, made.take_back, "one")
        self.assertRaises(NotKept, made.tell, "one", 3, 33)
        self.assertRaises(NotKept, made.drop, "one")
        made.keep("one", SQUARES)
        self.assertEqual(made.worths_of("one"), SQUARES)
        self.assertEqual(made.tellings("one"), [])
        self.assertRaises(NothingTold, made.take_back, "one")


class Telling(unittest.TestCase):
    def test_by_hand(self):
        made = house_of(one=TENS)
        self.assertEqual(made.tell("one", 3, 30), 3)
        self.assertEqual(made.tell("one", 3, 31), 30)
        self.assertEqual(made.tell("one", 0, 50), 0)
        self.assertEqual(made.worths_of("one"), [50, 1, 2, 31, 4, 5, 6, 7, 8, 9])
        self.assertEqual(made.tellings("one"), [(3, 3, 30), (3, 30, 31), (0, 0, 50)])
        self.assertEqual(made.fall_of("one", 303), 112)
        self.assertEqual(made.take_back("one"), (0, 0))
        self.assertEqual(made.tellings("one"), [(3, 3, 30), (3, 30, 31)])
        self.assertEqual(made.take_back("one"), (3, 30))
        self.assertEqual(made.fall_of("one", 303), 60)
        self.assertEqual(made.take_back("one"), (3, 3))
        self.assertEqual(made.worths_of("one"), TENS)
        self.assertEqual(made.tellings("one"), [])
        self.assertRaises(NothingTold, made.take_back, "one")
        self.assertEqual(made.worths_of("one"), TENS)

    def test_the_same_worth_told_counts_too(self):
        made = house_of(one=TENS)
        self.assertEqual(made.tell("one", 3, 3), 3)
        self.assertEqual(made.tell("one", 3, 3), 3)
        self.assertEqual(made.tellings("one"), [(3, 3, 3), (3, 3, 3)])
        self.assertEqual(made.take_back("one"), (3, 3))
        self.assertEqual(made.take_back("one"), (3, 3))
        self.assertRaises(NothingTold, made.take_back, "one")

    def test_every_figure_and_no_other(self):
        for base in BASES:
            made = house_of(one=[7] * base)
            for figure in range(base):
                self.assertEqual(made.tell("one", figure, figure), 7)
            self.assertEqual(made.worths_of("one"), list(range(base)))
            ahead = made.tellings("one")
            for figure in (-GREAT, -base, -1, base, base + 1, GREAT):
                for worth in (0, 50, -1, 51, GREAT):
                    self.assertRaises(BadFigure, made.tell, "one", figure, worth)
            self.assertEqual(made.worths_of("one"), list(range(base)))
            self.assertEqual(made.tellings("one"), ahead)

    def test_bad_worths(self):
        made = house_of(one=TENS)
        self.assertEqual(made.tell("one", 0, 50), 0)
        self.assertEqual(made.tell("one", 9, 0), 9)
        for worth in (-GREAT, -1, 51, 100, GREAT):
            for figure in (0, 9):
                self.assertRaises(BadWorth, made.tell, "one", figure, worth)
        self.assertEqual(made.worths_of("one"), [50] + TENS[1:9] + [0])
        self.assertEqual(made.tellings("one"), [(0, 0, 50), (9, 9, 0)])

    def test_tellings_in_one_book_are_none_of_another_book(self):
        made = house_of(one=TENS, two=TENS)
        made.tell("one", 1, 11)
        made.tell("two", 2, 22)
        made.tell("one", 3, 33)
        self.assertEqual(made.tellings("one"), [(1, 1, 11), (3, 3, 33)])
        self.assertEqual(made.tellings("two"), [(2, 2, 22)])
        self.assertEqual(made.worths_of("two"), [0, 1, 22, 3, 4, 5, 6, 7, 8, 9])
        self.assertEqual(made.take_back("two"), (2, 2))
        self.assertRaises(NothingTold, made.take_back, "two")
        self.assertEqual(made.worths_of("one"), [0, 11, 2, 33, 4, 5, 6, 7, 8, 9])
        made.drop("two")
        self.assertEqual(made.take_back("one"), (3, 3))

    def test_200_tellings_are_kept(self):
        made = house_of(one=[0, 0])
        for number in range(200):
            made.tell("one", number % 2, number % 51)
        self.assertEqual(len(made.tellings("one")), 200)
        self.assertEqual(made.tellings("one")[0], (0, 0, 0))
        for number in range(200):
            made.take_back("one")
        self.assertEqual(made.worths_of("one"), [0, 0])
        self.assertRaises(NothingTold, made.take_back, "one")

    def test_the_eldest_is_forgotten_for_good(self):
        made = house_of(one=[7, 8])
        told = [(0, 7, 1), (1, 8, 2)]
        made.tell("one", 0, 1)
        made.tell("one", 1, 2)
        for number in range(198):
            worth = made.worths_of("one")[0]
            made.tell("one", 0, number % 51)
            told.append((0, worth, number % 51))
        self.assertEqual(made.tellings("one"), told)
        # The eldest alone goes.
        told.append((0, told[-1][2], 50))
        made.tell("one", 0, 50)
        self.assertEqual(made.tellings("one"), told[1:])
        made.tell("one", 0, 49)
        told.append((0, 50, 49))
        self.assertEqual(made.tellings("one"), told[2:])
        for figure, worth, given in reversed(told[2:]):
            self.assertEqual(made.take_back("one"), (figure, worth))
        # Its worth stays.
        self.assertEqual(made.worths_of("one"), [1, 2])
        self.assertRaises(NothingTold, made.take_back, "one")

    def test_room_made_by_taking_back(self):
        made = house_of(one=[7, 8])
        for number in range(250):
            made.tell("one", 0, number % 51)
        ahead = made.tellings("one")
        made.take_back("one")
        made.take_back("one")
        self.assertEqual(made.tellings("one"), ahead[:198])
        made.tell("one", 1, 5)
        made.tell("one", 1, 6)
        self.assertEqual(made.tellings("one"), ahead[:198] + [(1, 8, 5), (1, 5, 6)])
        made.tell("one", 1, 7)
        self.assertEqual(made.tellings("one"), ahead[1:198] + [(1, 8, 5), (1, 5, 6), (1, 6, 7)])

    def test_each_book_keeps_200_of_its_own(self):
        made = house_of(one=[7, 8], two=[9, 10])
        for number in range(210):
            made.tell("one", 0, number % 51)
            made.tell("two", 1, number % 51)
        self.assertEqual(len(made.tellings("one")), 200)
        self.assertEqual(len(made.tellings("two")), 200)
        self.assertEqual(made.tellings("two")[0], (1, 9, 10))

    def test_a_refused_telling_forgets_nothing(self):
        made = house_of(one=[7, 8])
        for number in range(200):
            made.tell("one", 0, number % 51)
        ahead = made.tellings("one")
        self.assertRaises(BadWorth, made.tell, "one", 0, 51)
        self.assertRaises(BadFigure, made.tell, "one", 2, 5)
        self.assertEqual(made.tellings("one"), ahead)

    def test_taking_back_brings_back_every_answer(self):
        chance = random.Random(22)
        for row in ([3, 50, 0], SQUARES, [1] * 16):
            made = house_of(one=row)
            answers = []
            for number in range(12):
                answers.append(all_answers(made, "one"))
                made.tell("one", chance.randrange(len(row)), chance.randint(0, 50))
            for ahead in reversed(answers):
                made.take_back("one")
                self.assertEqual(all_answers(made, "one"), ahead)


class Asking(unittest.TestCase):
    def test_every_question_is_answered_as_the_function_does(self):
        for row in many_books()[::10]:
            made = house_of(other=[9, 9, 9], one=row)
            with self.subTest(row=row):
                self.assertEqual(all_answers(made, "one"), all_answers_of_row(row))

    def test_with_the_worths_as_they_are_now(self):
        chance = random.Random(23)
        made = house_of(other=TENS, one=SQUARES)
        row = list(SQUARES)
        for number in range(25):
            figure = chance.randrange(8)
            row[figure] = chance.randint(0, 50)
            made.tell("one", figure, row[figure])
            self.assertEqual(all_answers(made, "one"), all_answers_of_row(row))
        self.assertEqual(all_answers(made, "other"), all_answers_of_row(TENS))

    def test_a_book_that_is_not_kept_ahead_of_all_else(self):
        made = house_of(one=TENS, gone=TENS)
        made.drop("gone")
        for name in ("gone", "", "ONE", "one "):
            self.assertEqual(set(all_answers(made, name)), {NotKept})
            for figure in (0, -1, 10, GREAT):
                for worth in (0, -1, 51, GREAT):
                    self.assertRaises(NotKept, made.tell, name, figure, worth)
            for ask in (made.drop, made.worths_of, made.take_back, made.tellings):
                self.assertRaises(NotKept, ask, name)
        self.assertEqual(made.names(), ["one"])


class OverTheWhole(unittest.TestCase):
    """Point 24: long rows of keepings, tellings, takings back and droppings beside a plain copy of what is kept."""

    NAMES = [f"book {number}" for number in range(24)]

    def do_one(self, chance, made, plain):
        kind = chance.choice(["keep", "keep", "drop"] + ["tell"] * 12 + ["take back"] * 6 + ["bad"] * 2)
        name = chance.choice(self.NAMES)
        if kind == "keep":
            row = [chance.randint(0, 50) for figure in range(chance.choice(BASES))]
            if name in plain or len(plain) == 20:
                self.assertRaises(NameTaken if name in plain else HouseFull, made.keep, name, row)
            else:
                made.keep(name, row)
                plain[name] = (row, [])
        elif name not in plain:
            self.assertRaises(NotKept, made.take_back, name)
            self.assertRaises(NotKept, made.drop, name)
        elif kind == "drop":
            made.drop(name)
            del plain[name]
        elif kind == "tell":
            for number in range(chance.choice((1, 1, 1, 60))):
                self.tell_one(chance, made, name, *plain[name])
        elif kind == "take back":
            for number in range(chance.choice((1, 1, 5))):
                self.take_one_back(made, name, *plain[name])
        else:
            self.assertRaises(BadFigure, made.tell, name, len(plain[name][0]), 3)
            self.assertRaises(BadWorth, made.tell, name, 0, 51)

    def tell_one(self, chance, made, name, row, told):
        figure, worth = chance.randrange(len(row)), chance.randint(0, 50)
        self.assertEqual(made.tell(name, figure, worth), row[figure])
        told.append((figure, row[figure], worth))
        del told[:-200]
        row[figure] = worth

    def take_one_back(self, made, name, row, told):
        if told:
            figure, ahead, given = told.pop()
            self.assertEqual(made.take_back(name), (figure, ahead))
            row[figure] = ahead
        else:
            self.assertRaises(NothingTold, made.take_back, name)

    def look_at_books(self, made, plain):
        self.assertEqual(made.names(), list(plain))
        for name, (row, told) in plain.items():
            self.assertEqual(made.worths_of(name), row)
            self.assertEqual(made.tellings(name), told)

    def look_at_counts_and_places(self, chance, made, name, row):
        book = PlainBook(list(row))
        for limit in (chance.randrange(3001), 3000):
            self.assertEqual(made.counts_below(name, limit), book.counts(limit))
        small = chance.randrange(300)
        self.assertEqual(made.counts_one_by_one(name, small), book.counts(small))
        great = chance.randrange(book.base ** 20 + 1)
        self.assertEqual(made.counts_below(name, great), book.great_counts(great))
        number = chance.randrange(3000)
        least = book.leasts[number]
        place = book.first_numbers_of(least).index(number)
        self.assertEqual(made.place_of(name, number), place)
        self.assertEqual(made.number_at(name, least, place), number)

    def test_long_rows(self):
        for seed in range(4):
            chance = random.Random(seed)
            made = House()
            plain = {}
            for step in range(1500):
                self.do_one(chance, made, plain)
                if step % 25 == 0:
                    self.look_at_books(made, plain)
                if step % 60 == 0 and plain:
                    name = chance.choice(list(plain))
                    with self.subTest(seed=seed, step=step):
                        self.look_at_counts_and_places(chance, made, name, plain[name][0])
            self.look_at_books(made, plain)
            for name, (row, told) in plain.items():
                with self.subTest(seed=seed, name=name):
                    self.look_at_counts_and_places(chance, made, name, row)

    def test_every_telling_looked_at(self):
        chance = random.Random(24)
        made = House()
        for base in (2, 3, 10, 16):
            row = [chance.randint(0, 50) for figure in range(base)]
            made.keep(str(base), row)
            for step in range(12):
                self.tell_one(chance, made, str(base), row, [])
                self.look_at_counts_and_places(chance, made, str(base), row)


if __name__ == "__main__":
    unittest.main()
