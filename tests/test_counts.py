"""Points 13 to 15: counts and spreads, against letting numbers fall one by one."""

import collections
import random
import unittest

from figurefall import counts
from figurefall.counts import counts_below, counts_one_by_one, many_of, spread_of
from figurefall.errors import BadLength, BadNumber, BadTarget
from figurefall.falls import fall_of
from figurefall.walks import ring_of, rings_of
from plain import BASES, FIRST, GREAT, counted_numbers, many_books, plain_books

TENS = list(range(10))
SQUARES = [0, 1, 4, 9, 16, 25, 36, 49]


class Constants(unittest.TestCase):
    def test_as_the_interface_tells_them(self):
        told = (counts.MOST_COUNTED, counts.MOST_ONE_BY_ONE, counts.MOST_TARGET)
        self.assertEqual(told, (20, 3000, 1000))


class CountsOfManyBooks(unittest.TestCase):
    @classmethod
    def setUpClass(cls):
        cls.books = plain_books()

    def test_both_ways_against_letting_numbers_fall(self):
        for book in self.books:
            for limit in (0, 1, 3000):
                asked = counts_below(book.worths, limit)
                with self.subTest(row=book.worths, limit=limit):
                    self.assertEqual(asked, book.counts(limit))
                    self.assertEqual(asked, counts_one_by_one(book.worths, limit))

    def test_limits_round_each_new_figure(self):
        for book in self.books[::3]:
            for length in range(1, 13):
                for limit in (book.base ** length - 1, book.base ** length, book.base ** length + 1):
                    if limit <= FIRST:
                        with self.subTest(row=book.worths, limit=limit):
                            self.assertEqual(counts_below(book.worths, limit), book.counts(limit))

    def test_limits_by_chance(self):
        chance = random.Random(13)
        for book in self.books:
            limit = chance.randrange(3000)
            with self.subTest(row=book.worths, limit=limit):
                self.assertEqual(counts_below(book.worths, limit), book.counts(limit))
        for book in self.books[::4]:
            limit = chance.randrange(3000)
            with self.subTest(row=book.worths, limit=limit):
                self.assertEqual(counts_one_by_one(book.worths, limit), book.counts(limit))

    def test_every_small_limit(self):
        for book in self.books[5::43]:
            for limit in range(150):
                with self.subTest(row=book.worths, limit=limit):
                    self.assertEqual(counts_below(book.worths, limit), book.counts(limit))

    def test_great_limits(self):
        for book in self.books[::9]:
            for limit in counted_numbers(book.base) + [book.base ** 20]:
                with self.subTest(row=book.worths, limit=limit):
                    self.assertEqual(counts_below(book.worths, limit), book.great_counts(limit))

    def test_all_counts_together_are_the_limit(self):
        for book in self.books:
            for limit in (book.base ** 20, book.base ** 20 - 1, book.base ** 11 + 7):
                with self.subTest(row=book.worths, limit=limit):
                    told = counts_below(book.worths, limit)
                    self.assertEqual(sum(told), limit)
                    self.assertEqual(len(told), len(book.rings()))

    def test_tuples(self):
        for book in self.books[::9]:
            row = tuple(book.worths)
            with self.subTest(row=row):
                self.assertEqual(counts_below(row, 1234), book.counts(1234))
                self.assertEqual(counts_one_by_one(row, 345), book.counts(345))


class Counts(unittest.TestCase):
    def test_by_hand(self):
        # Each number comes to the ring of one figure that it has the rest of by 9, or 9 in the place of 0.
        self.assertEqual(counts_below(TENS, 1000), [1] + [111] * 9)
        self.assertEqual(counts_below(TENS, 10 ** 20), [1] + [(10 ** 20 - 1) // 9] * 9)
        self.assertEqual(counts_one_by_one(TENS, 1000), [1] + [111] * 9)
        # 0 falls to 1 and 1 to 0: one ring, which every number comes to.
        self.assertEqual(counts_below([1, 0], 2 ** 20), [2 ** 20])
        self.assertEqual(counts_one_by_one([1, 0], 3000), [3000])

    def test_in_the_order_of_rings(self):
        # 0 comes to the ring of 5, the last but one.
        row = [5, 1, 2, 3, 4, 5]
        self.assertEqual(rings_of(row), [[1], [2], [3], [4], [5], [6]])
        self.assertEqual(counts_below(row, 1), [0, 0, 0, 0, 1, 0])
        self.assertEqual(counts_one_by_one(row, 1), [0, 0, 0, 0, 1, 0])
        self.assertEqual(counts_below(row, 3), [1, 1, 0, 0, 1, 0])

    def test_nought_alone_is_counted_with_the_figure_0_ahead(self):
        for base in BASES:
            row = [50] + [0] * (base - 1)
            leasts = [ring[0] for ring in rings_of(row)]
            for limit in range(0, 2 * base * base, 3):
                told = collections.Counter(ring_of(row, number)[0][0] for number in range(limit))
                with self.subTest(base=base, limit=limit):
                    self.assertEqual(counts_below(row, limit), [told[least] for least in leasts])

    def test_no_limit_counts_nothing(self):
        for ask in (counts_below, counts_one_by_one):
            for base in BASES:
                row = list(range(base))
                self.assertEqual(ask(row, 0), [0] * base)
                self.assertEqual(ask([0] * base, 0), [0])

    def test_limits_of_counts_below(self):
        for base in BASES:
            row = [(figure * 17 + 29) % 51 for figure in range(base)]
            self.assertEqual(sum(counts_below(row, base ** 20)), base ** 20)
            self.assertEqual(sum(counts_below(row, 3001)), min(3001, base ** 20))
            for limit in (-GREAT, -base, -1, base ** 20 + 1, base ** 21, base ** 1001, GREAT):
                with self.subTest(base=base):
                    self.assertRaises(BadNumber, counts_below, row, limit)
                    self.assertRaises(BadNumber, counts_below, tuple(row), limit)

    def test_limits_of_counts_one_by_one(self):
        for base in BASES:
            row = [(figure * 17 + 29) % 51 for figure in range(base)]
            self.assertEqual(sum(counts_one_by_one(row, 3000)), 3000)
            for limit in (-GREAT, -1, 3001, 3002, base ** 20, base ** 20 + 1, GREAT):
                with self.subTest(base=base):
                    self.assertRaises(BadNumber, counts_one_by_one, row, limit)
                    self.assertRaises(BadNumber, counts_one_by_one, tuple(row), limit)


class Spreads(unittest.TestCase):
    def test_against_letting_all_numbers_of_that_length_fall(self):
        for book in plain_books():
            row = book.worths
            length = 1
            while book.base ** length <= FIRST:
                with self.subTest(row=row, length=length):
                    self.assertEqual(spread_of(row, length), book.spread(length))
                length += 1

    def test_great_lengths(self):
        for book in plain_books()[::12]:
            row = book.worths
            for length in (9, 14, 19, 20):
                sums = book.sums_below(book.base ** length)
                sums.subtract(book.sums_below(book.base ** (length - 1)))
                with self.subTest(row=row, length=length):
                    self.assertEqual(spread_of(row, length), [sums[total] for total in range(50 * length + 1)])

    def test_how_long_the_list_is_and_all_of_it_together(self):
        for base in BASES:
            for row in ([0] * base, [50] * base, [1] * base, [figure * 3 for figure in range(base)]):
                for length in range(1, 21):
                    told = spread_of(row, length)
                    with self.subTest(row=row, length=length):
                        self.assertEqual(len(told), 50 * length + 1)
                        self.assertEqual(sum(told), base if length == 1 else (base - 1) * base ** (length - 1))

    def test_nought_is_a_number_of_one_figure_and_longer_ones_do_not_begin_with_0(self):
        told = spread_of((50, 0), 1)
        self.assertEqual((told[0], told[50], sum(told)), (1, 1, 2))
        # Written 10 and 11.
        told = spread_of((50, 0), 2)
        self.assertEqual((told[0], told[50], told[100], sum(told)), (1, 1, 0, 2))
        # 20 figures, the first of which is 1 and each of the others 0 or 1.
        self.assertEqual(spread_of((1, 0), 20)[:4], [1, 19, 171, 969])

    def test_the_least_and_the_greatest_sum(self):
        for base in BASES:
            for length in (1, 2, 20):
                numbers = base if length == 1 else (base - 1) * base ** (length - 1)
                self.assertEqual(spread_of([0] * base, length), [numbers] + [0] * (50 * length))
                self.assertEqual(spread_of([50] * base, length)[50 * length], numbers)

    def test_many_of_is_one_of_the_spread(self):
        for row in many_books()[::20]:
            for length in (1, 2, 7, 20):
                told = spread_of(row, length)
                for target in list(range(0, 1001, 13)) + [50 * length - 1, 50 * length, 50 * length + 1, 1000]:
                    if target <= 1000:
                        with self.subTest(row=row, length=length, target=target):
                            expected = told[target] if target < len(told) else 0
                            self.assertEqual(many_of(row, length, target), expected)

    def test_many_of_by_hand(self):
        self.assertEqual(many_of(TENS, 3, 2), 3)
        self.assertEqual(many_of(TENS, 1, 0), 1)
        self.assertEqual(many_of(TENS, 2, 0), 0)
        self.assertEqual(many_of(TENS, 1, 1000), 0)
        self.assertEqual(many_of(TENS, 20, 1000), 0)
        self.assertEqual(many_of([50] * 10, 20, 1000), 9 * 10 ** 19)
        self.assertEqual(many_of(tuple(SQUARES), 2, 98), 1)
        self.assertEqual(many_of((50, 0), 20, 950), 1)

    def test_many_of_against_letting_numbers_fall(self):
        chance = random.Random(15)
        for base in BASES:
            row = [chance.randint(0, 50) for figure in range(base)]
            sums = collections.Counter(fall_of(row, number) for number in range(base, base * base))
            for target in range(0, 102):
                self.assertEqual(many_of(row, 2, target), sums[target])

    def test_bad_lengths(self):
        for base in BASES:
            for length in (-GREAT, -20, -1, 0, 21, 22, 1001, GREAT):
                with self.subTest(base=base):
                    self.assertRaises(BadLength, spread_of, [1] * base, length)
                    self.assertRaises(BadLength, many_of, [1] * base, length, 0)
                    self.assertRaises(BadLength, many_of, (50,) * base, length, 1000)

    def test_bad_targets(self):
        for base in BASES:
            for target in (-GREAT, -50, -1, 1001, 1002, GREAT):
                for length in (1, 20):
                    with self.subTest(base=base, length=length):
                        self.assertRaises(BadTarget, many_of, [50] * base, length, target)


if __name__ == "__main__":
    unittest.main()
