"""Points 18 and 19: sums of worths and least numbers, against plain search."""

import unittest

from figurefall.errors import BadTarget
from figurefall.falls import fall_of
from figurefall.figures import figures_of
from figurefall.leasts import least_of, sums_to
from plain import BASES, FIRST, GREAT, PlainBook, many_books, plain_books

TENS = list(range(10))


class Sums(unittest.TestCase):
    def test_many_books(self):
        for book in plain_books():
            row = book.worths
            for target in (0, 1, 50, 51, 1000):
                with self.subTest(row=row, target=target):
                    self.assertEqual(sums_to(row, target), book.fewest(target))

    def test_by_hand(self):
        self.assertEqual(sums_to([0, 1], 3), [0, 1, 2, 3])
        self.assertEqual(sums_to((3, 5), 8), [0, None, None, 1, None, 1, 2, None, 2])
        # 6 is 3 and 3, and not 4, 1 and 1.
        self.assertEqual(sums_to([1, 3, 4], 6), [0, 1, 2, 1, 1, 2, 2])
        self.assertEqual(sums_to(TENS, 28), [0] + [1] * 9 + [2] * 9 + [3] * 9 + [4])

    def test_the_figure_0_counts_like_the_others(self):
        self.assertEqual(sums_to([7, 0, 0], 21)[7::7], [1, 2, 3])

    def test_no_figure_at_all_comes_to_0(self):
        for base in BASES:
            for worth in (0, 1, 50):
                self.assertEqual(sums_to([worth] * base, 0), [0])

    def test_worths_that_come_to_nothing(self):
        for base in BASES:
            self.assertEqual(sums_to([0] * base, 1000), [0] + [None] * 1000)
            told = sums_to([50] * base, 1000)
            self.assertEqual(told[::50], list(range(21)))
            self.assertEqual([told[total] for total in range(1000) if total % 50 > 0], [None] * 980)

    def test_the_list_has_one_thing_more_than_the_target(self):
        for target in (0, 1, 7, 49, 50, 51, 999, 1000):
            self.assertEqual(len(sums_to(TENS, target)), target + 1)

    def test_a_lesser_target_has_the_beginning_of_the_same_table(self):
        for row in many_books()[::25]:
            whole = sums_to(row, 1000)
            for target in range(0, 1000, 37):
                self.assertEqual(sums_to(row, target), whole[:target + 1])

    def test_bad_targets(self):
        for base in BASES:
            for target in (-GREAT, -50, -1, 1001, 1002, GREAT):
                with self.subTest(base=base):
                    self.assertRaises(BadTarget, sums_to, [1] * base, target)
                    self.assertRaises(BadTarget, sums_to, (0,) * base, target)


class Leasts(unittest.TestCase):
    def test_the_first_number_that_falls_so(self):
        for book in plain_books():
            row = book.worths
            found = {}
            for number in range(FIRST):
                found.setdefault(book.table[number], number)
            for target in range(0, 201, 3 if len(row) % 2 else 2):
                told = least_of(row, target)
                with self.subTest(row=row, target=target):
                    if target in found:
                        self.assertEqual(told, found[target])
                    else:
                        self.assertTrue(told is None or told >= FIRST)

    def test_every_target_by_search(self):
        for book in plain_books()[::16]:
            row = book.worths
            # Enough figures for all but those books whose worths are small, which are tried further below.
            found = book.least_numbers(1000, 60)
            for target in range(0, 1001, 3):
                told = least_of(row, target)
                with self.subTest(row=row, target=target):
                    if target in found:
                        self.assertEqual(told, found[target])
                    else:
                        self.assertTrue(told is None or told >= len(row) ** 60)

    def test_none_just_where_the_document_says_so(self):
        for book in plain_books()[::5]:
            row = book.worths
            table = book.fewest(1000)
            for target in list(range(0, 1001, 29)) + [1, 49, 50, 51, 999, 1000]:
                behind = [target - worth for worth in row[1:] if worth <= target]
                some = target == row[0] or any(table[left] is not None for left in behind)
                told = least_of(row, target)
                with self.subTest(row=row, target=target):
                    self.assertEqual(told is not None, some)
                    if some:
                        self.assertEqual(fall_of(row, told), target)

    def test_by_hand(self):
        self.assertEqual(least_of(TENS, 0), 0)
        self.assertEqual(least_of(TENS, 9), 9)
        self.assertEqual(least_of(TENS, 10), 19)
        self.assertEqual(least_of(tuple(TENS), 28), 1999)
        # 12, and not 21: both are written by the two figures.
        self.assertEqual(least_of([9, 1, 2, 9, 9, 9, 9, 9, 9, 9], 3), 12)
        # 100, since the figure 0 may stand behind and is worth the most.
        self.assertEqual(least_of([9, 1, 2, 9, 9, 9, 9, 9, 9, 9], 19), 100)

    def test_nought_is_the_least_where_its_figure_is_worth_the_target(self):
        for base in BASES:
            for worth in (0, 1, 17, 50):
                self.assertEqual(least_of([worth] * base, worth), 0)
                self.assertEqual(least_of((worth,) + (0,) * (base - 1), worth), 0)

    def test_a_figure_worth_nothing_begins_where_no_other_can(self):
        # Only the figure 0 is worth something and no number but nought begins with it.
        for base in BASES:
            row = [5] + [0] * (base - 1)
            self.assertEqual(least_of(row, 5), 0)
            self.assertEqual(least_of(row, 10), base ** 2)
            self.assertEqual(least_of(row, 0), 1)
            self.assertIsNone(least_of(row, 7))

    def test_no_number(self):
        for base in BASES:
            self.assertIsNone(least_of([0] * base, 1))
            self.assertIsNone(least_of([0] * base, 1000))
            self.assertIsNone(least_of([1] * base, 0))
            self.assertIsNone(least_of([50] * base, 999))
            # Sums to 49 are there, but a number of two figures begins with one that is worth too much.
            self.assertIsNone(least_of([7] + [50] * (base - 1), 49))
            self.assertEqual(sums_to([7] + [50] * (base - 1), 49)[49], 7)

    def test_least_numbers_of_very_many_figures(self):
        for base in BASES:
            ones = [1] * base
            self.assertEqual(least_of(ones, 1000), base ** 999)
            # The figure 1 is worth nothing and must stand ahead of a thousand noughts.
            row = [1] + [0] * (base - 1)
            self.assertEqual(least_of(row, 1000), base ** 1000)
            self.assertEqual(len(figures_of(least_of(row, 1000), base)), 1001)
            last = [0] * (base - 1) + [1]
            self.assertEqual(least_of(last, 1000), base ** 1000 - 1)

    def test_no_lesser_number_falls_so(self):
        for row in many_books()[3::50]:
            for target in range(0, 120, 7):
                told = least_of(row, target)
                stop = FIRST if told is None else min(told, FIRST)
                with self.subTest(row=row, target=target):
                    self.assertNotIn(target, [fall_of(row, number) for number in range(stop)])

    def test_at_most_1001_figures_and_small_worths(self):
        for row in ([0, 1], [1, 0], [2, 1, 0], [0, 0, 0, 3, 2]):
            book = PlainBook(row)
            found = book.least_numbers(1000, 1001)
            for target in range(1001):
                told = least_of(row, target)
                with self.subTest(row=row, target=target):
                    self.assertEqual(told, found.get(target))
                    self.assertTrue(told is None or told < len(row) ** 1001)

    def test_bad_targets(self):
        for base in BASES:
            for target in (-GREAT, -50, -1, 1001, 1002, GREAT):
                with self.subTest(base=base):
                    self.assertRaises(BadTarget, least_of, [1] * base, target)
                    self.assertRaises(BadTarget, least_of, (0,) * base, target)


if __name__ == "__main__":
    unittest.main()
