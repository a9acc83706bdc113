"""Points 6 to 8: worths and falls."""

import itertools
import random
import unittest

from figurefall import falls
from figurefall.counts import counts_below, counts_one_by_one, many_of, spread_of
from figurefall.errors import BadBase, BadNumber, BadWorth
from figurefall.falls import fall_of
from figurefall.figures import number_of
from figurefall.leasts import least_of, sums_to
from figurefall.places import number_at, place_of
from figurefall.walks import bound_of, ring_of, rings_of, walk_of
from plain import BASES, GREAT, PlainBook, great_numbers, plain_books

# Every function that takes a row of worths, each asked of a number that is always good.
ASKED_OF_A_BOOK = (
    lambda worths: fall_of(worths, 1),
    lambda worths: walk_of(worths, 1),
    lambda worths: ring_of(worths, 1),
    bound_of,
    rings_of,
    lambda worths: counts_below(worths, 1),
    lambda worths: counts_one_by_one(worths, 1),
    lambda worths: spread_of(worths, 1),
    lambda worths: many_of(worths, 1, 1),
    lambda worths: place_of(worths, 1),
    lambda worths: sums_to(worths, 1),
    lambda worths: least_of(worths, 1),
)
# No number is the least of a ring in every book, so this one can only be asked of bad rows.
ASKED_OF_A_BAD_ROW = ASKED_OF_A_BOOK + (lambda worths: number_at(worths, 0, 0),)


class Constants(unittest.TestCase):
    def test_most_worth(self):
        self.assertEqual(falls.MOST_WORTH, 50)


class RowsOfWorths(unittest.TestCase):
    def test_every_length_from_2_to_16_is_a_base(self):
        for ask in ASKED_OF_A_BOOK:
            for length in BASES:
                row = [figure % 7 for figure in range(length)]
                with self.subTest(length=length):
                    self.assertEqual(ask(row), ask(tuple(row)))

    def test_no_other_length_is(self):
        for ask in ASKED_OF_A_BAD_ROW:
            for length in (0, 1, 17, 18, 32, 1000):
                with self.subTest(length=length):
                    self.assertRaises(BadBase, ask, [1] * length)
                    self.assertRaises(BadBase, ask, (1,) * length)

    def test_worths_0_and_50_are_good_at_any_place(self):
        for ask in ASKED_OF_A_BOOK:
            for base in BASES:
                for place in range(base):
                    for worth in (0, 50):
                        row = [3] * base
                        row[place] = worth
                        ask(row)

    def test_bad_worths_at_any_place(self):
        for ask in ASKED_OF_A_BAD_ROW:
            for base in BASES:
                for place in range(base):
                    for worth in (-GREAT, -50, -1, 51, 100, GREAT):
                        row = [3] * base
                        row[place] = worth
                        with self.subTest(base=base, place=place):
                            self.assertRaises(BadWorth, ask, row)
                            self.assertRaises(BadWorth, ask, tuple(row))

    def test_a_bad_base_comes_ahead_of_a_bad_worth(self):
        for ask in ASKED_OF_A_BAD_ROW:
            for row in ([-1], [51], [GREAT], [-1] * 17, [51] * 17, [1] * 16 + [51]):
                self.assertRaises(BadBase, ask, row)


class Falls(unittest.TestCase):
    def test_by_hand(self):
        tens = [0, 1, 2, 3, 4, 5, 6, 7, 8, 9]
        self.assertEqual(fall_of(tens, 2026), 10)
        self.assertEqual(fall_of(tens, 9999), 36)
        self.assertEqual(fall_of((3, 5), 6), 13)
        self.assertEqual(fall_of([0, 1, 4, 9, 16, 25, 36, 49], 63), 98)
        self.assertEqual(fall_of([50, 0], 8), 150)

    def test_nought_falls_to_the_worth_of_the_figure_0(self):
        for base in BASES:
            for worth in (0, 1, 17, 50):
                self.assertEqual(fall_of([worth] + [9] * (base - 1), 0), worth)

    def test_a_number_of_one_figure_falls_to_its_worth(self):
        for base in BASES:
            row = [(figure * 11 + 5) % 51 for figure in range(base)]
            self.assertEqual([fall_of(row, figure) for figure in range(base)], row)

    def test_many_books(self):
        for book in plain_books():
            row = book.worths
            for number in list(range(0, 200)) + list(range(200, 5000, 97)):
                with self.subTest(row=row, number=number):
                    self.assertEqual(fall_of(row, number), book.fall(number))
                    self.assertEqual(fall_of(tuple(row), number), book.fall(number))

    def test_1001_figures(self):
        for base in BASES:
            row = [50 - figure for figure in range(base)]
            book = PlainBook(row)
            with self.subTest(base=base):
                self.assertEqual(fall_of(row, base ** 1000), 49 + 50 * 1000)
                self.assertEqual(fall_of(row, base ** 1001 - 1), (51 - base) * 1001)
                for number in great_numbers(base):
                    self.assertEqual(fall_of(row, number), book.fall(number))

    def test_bad_numbers(self):
        for base in BASES:
            for number in (-1, -base, -GREAT, base ** 1001, base ** 1001 + 1, GREAT):
                with self.subTest(base=base):
                    self.assertRaises(BadNumber, fall_of, [1] * base, number)
                    self.assertRaises(BadNumber, fall_of, (0,) * base, number)


class OtherOrder(unittest.TestCase):
    def test_every_order_of_a_few_figures(self):
        row = [7, 0, 50, 13, 22]
        for picked in ([1, 0, 2], [4, 4, 3, 0], [1, 2, 3, 4, 0], [0, 0, 0, 2, 1]):
            numbers = [number_of(order, 5) for order in itertools.permutations(picked) if order[0] != 0]
            self.assertGreater(len(set(numbers)), 1)
            self.assertEqual({fall_of(row, number) for number in numbers}, {sum(row[figure] for figure in picked)})

    def test_long_rows_of_figures(self):
        chance = random.Random(8)
        for base in BASES:
            row = [chance.randint(0, 50) for figure in range(base)]
            behind = [chance.randrange(base) for place in range(1000)]
            mixed = chance.sample(behind, 1000)
            with self.subTest(base=base):
                self.assertNotEqual(behind, mixed)
                one = number_of([1] + behind, base)
                other = number_of([1] + mixed, base)
                self.assertEqual(fall_of(row, one), fall_of(row, other))


if __name__ == "__main__":
    unittest.main()
