"""Points 9 to 12: walks, rings and the bound, against letting numbers fall one by one."""

import unittest

from figurefall.errors import BadNumber
from figurefall.falls import fall_of
from figurefall.walks import bound_of, ring_of, rings_of, walk_of
from plain import BASES, GREAT, PlainBook, great_numbers, many_books, plain_books

SQUARES = [0, 1, 4, 9, 16, 25, 36, 49]
SOME_NUMBERS = list(range(100)) + list(range(100, 600, 11)) + list(range(600, 6000, 301))


class ManyBooks(unittest.TestCase):
    @classmethod
    def setUpClass(cls):
        cls.books = plain_books()

    def test_walks(self):
        for book in self.books:
            for number in SOME_NUMBERS:
                with self.subTest(row=book.worths, number=number):
                    self.assertEqual(walk_of(book.worths, number), book.walk(number))

    def test_rings_that_numbers_come_to(self):
        for book in self.books:
            for number in SOME_NUMBERS:
                with self.subTest(row=book.worths, number=number):
                    self.assertEqual(ring_of(book.worths, number), book.ring(number))

    def test_bounds(self):
        for book in self.books:
            with self.subTest(row=book.worths):
                self.assertEqual(bound_of(book.worths), book.bound())
                self.assertTrue(1 <= bound_of(book.worths) <= 451)

    def test_rings(self):
        for book in self.books:
            with self.subTest(row=book.worths):
                self.assertEqual(rings_of(book.worths), book.rings())

    def test_rings_are_those_that_numbers_below_the_bound_come_to(self):
        for book in self.books[::5]:
            come_to = [ring_of(book.worths, number)[0] for number in range(bound_of(book.worths))]
            with self.subTest(row=book.worths):
                rings = rings_of(book.worths)
                self.assertEqual({tuple(ring) for ring in come_to}, {tuple(ring) for ring in rings})
                leasts = [ring[0] for ring in rings]
                self.assertEqual(leasts, sorted(set(leasts)))
                self.assertLess(leasts[-1], bound_of(book.worths))

    def test_tuples(self):
        for book in self.books[::7]:
            row = tuple(book.worths)
            with self.subTest(row=row):
                self.assertEqual(bound_of(row), book.bound())
                self.assertEqual(rings_of(row), book.rings())
                for number in (0, 1, 77, 450, 5000):
                    self.assertEqual(walk_of(row, number), book.walk(number))
                    self.assertEqual(ring_of(row, number), book.ring(number))

    def test_great_numbers(self):
        for book in self.books[::5]:
            for number in great_numbers(book.base):
                with self.subTest(row=book.worths):
                    self.assertEqual(walk_of(book.worths, number), book.walk(number))
                    self.assertEqual(ring_of(book.worths, number), book.ring(number))


class Walks(unittest.TestCase):
    def test_by_hand(self):
        self.assertEqual(walk_of(SQUARES, 4), [4, 16])
        self.assertEqual(walk_of(SQUARES, 2), [2, 4, 16])
        self.assertEqual(walk_of(SQUARES, 1), [1])
        self.assertEqual(walk_of([0] * 10, 0), [0])
        self.assertEqual(walk_of([0] * 10, 12345), [12345, 0])
        self.assertEqual(walk_of(list(range(10)), 999999), [999999, 54, 9])

    def test_no_number_twice_and_the_last_falls_into_the_walk(self):
        for base in BASES:
            row = [(figure * 17 + 29) % 51 for figure in range(base)]
            for number in list(range(500)) + great_numbers(base):
                walk = walk_of(row, number)
                with self.subTest(base=base):
                    self.assertEqual(walk[0], number)
                    self.assertEqual(len(walk), len(set(walk)))
                    for now, behind in zip(walk, walk[1:]):
                        self.assertEqual(fall_of(row, now), behind)
                    self.assertIn(fall_of(row, walk[-1]), walk)

    def test_bad_numbers(self):
        for ask in (walk_of, ring_of):
            for base in BASES:
                for number in (-1, -base, -GREAT, base ** 1001, base ** 1001 + 1, GREAT):
                    with self.subTest(base=base):
                        self.assertRaises(BadNumber, ask, [1] * base, number)
                        self.assertRaises(BadNumber, ask, (0,) * base, number)


class Rings(unittest.TestCase):
    def test_by_hand(self):
        self.assertEqual(ring_of(SQUARES, 4), ([4, 16], 0))
        self.assertEqual(ring_of(SQUARES, 16), ([4, 16], 0))
        self.assertEqual(ring_of(SQUARES, 2), ([4, 16], 1))
        self.assertEqual(ring_of(SQUARES, 1), ([1], 0))
        self.assertEqual(ring_of(SQUARES, 8 ** 1000), ([1], 1))
        self.assertEqual(ring_of([0] * 10, 12345), ([0], 1))
        self.assertEqual(ring_of(list(range(10)), 999999), ([9], 2))

    def test_kinds(self):
        told = ring_of(SQUARES, 2)
        self.assertIs(type(told), tuple)
        self.assertEqual([type(part) for part in told], [list, int])

    def test_told_from_the_least_number_wherever_the_walk_came_in(self):
        # 0 falls to 2, 2 to 1 and 1 to 0.
        row = [2, 0, 1]
        self.assertEqual([ring_of(row, number) for number in (0, 1, 2)], [([0, 2, 1], 0)] * 3)
        self.assertEqual(ring_of(row, 4), ([0, 2, 1], 1))

    def test_no_falls_just_on_the_ring(self):
        for row in many_books()[::9]:
            for number in range(460):
                ring, falls = ring_of(row, number)
                with self.subTest(row=row, number=number):
                    self.assertEqual(falls == 0, number in ring)
                    self.assertEqual(ring[0], min(ring))

    def test_rings_in_the_order_of_their_least_numbers(self):
        # 0 comes to a ring that begins with 1; the numbers from 2 on stand by themselves.
        self.assertEqual(rings_of([1, 1, 2, 3, 4, 5]), [[1], [2], [3], [4], [5]])
        # 0 comes to the ring of 5, which is told behind those of 1 to 4 all the same; 6, written 10, falls to 6.
        self.assertEqual(rings_of([5, 1, 2, 3, 4, 5]), [[1], [2], [3], [4], [5], [6]])

    def test_a_ring_with_numbers_that_are_not_below_the_bound(self):
        # 0 falls to 1 and 1 to 0, while every number from 1 on falls to a lesser one.
        self.assertEqual((bound_of([1, 0]), rings_of([1, 0])), (1, [[0, 1]]))
        # 12, written 20, falls to 13; 13, written 21, to 0; and 0 to 13.
        row = [13, 0, 0, 0, 0, 0]
        self.assertEqual((bound_of(row), rings_of(row)), (13, [[0, 13]]))
        self.assertEqual(ring_of(row, 13), ([0, 13], 0))

    def test_all_worths_0(self):
        for base in BASES:
            self.assertEqual(rings_of([0] * base), [[0]])
            self.assertEqual(ring_of([0] * base, base ** 1001 - 1), ([0], 1))

    def test_each_figure_worth_itself(self):
        for base in BASES:
            self.assertEqual(rings_of(list(range(base))), [[figure] for figure in range(base)])


class Bounds(unittest.TestCase):
    def test_the_least_and_the_greatest(self):
        for base in BASES:
            self.assertEqual(bound_of([0] * base), 1)
        self.assertEqual(bound_of([50, 50]), 451)
        self.assertEqual(bound_of([50] * 3), 301)
        self.assertEqual(bound_of([50] * 10), 151)

    def test_by_hand(self):
        # Each figure falls to itself, and 10 to 1.
        self.assertEqual(bound_of(list(range(10))), 10)
        # 16, 32, 48 and 64, written 10 to 40, fall to 50, and 256, written 100, to 100.
        self.assertEqual(bound_of([50] + [0] * 15), 49)

    def test_books_of_base_2(self):
        for nought in (0, 1, 2, 3, 10, 25, 33, 48, 49, 50):
            for one in range(51):
                row = [nought, one]
                with self.subTest(row=row):
                    self.assertEqual(bound_of(row), PlainBook(row).bound())

    def test_from_the_bound_on_all_fall_lower_and_the_one_ahead_does_not(self):
        for row in many_books()[::3]:
            bound = bound_of(row)
            with self.subTest(row=row):
                self.assertGreaterEqual(fall_of(row, bound - 1), bound - 1)
                for number in range(bound, 1200):
                    self.assertLess(fall_of(row, number), number)
                for number in great_numbers(len(row)):
                    self.assertLess(fall_of(row, number), number)


if __name__ == "__main__":
    unittest.main()
