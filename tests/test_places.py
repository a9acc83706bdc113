"""Points 16 and 17: places and the way back, against letting numbers fall one by one."""

import random
import unittest

from figurefall.counts import counts_below
from figurefall.errors import BadNumber, NoPlace, NoRing
from figurefall.places import number_at, place_of
from figurefall.walks import ring_of, rings_of
from plain import BASES, GREAT, PlainBook, counted_numbers, many_books, plain_books

TENS = list(range(10))


class ManyBooks(unittest.TestCase):
    @classmethod
    def setUpClass(cls):
        cls.books = plain_books()

    def test_places_and_numbers_of_each_ring(self):
        chance = random.Random(16)
        for book in self.books[::4]:
            for ring in book.rings():
                numbers = book.first_numbers_of(ring[0])
                for place in {0, chance.randrange(len(numbers)), len(numbers) - 1}:
                    with self.subTest(row=book.worths, least=ring[0], place=place):
                        self.assertEqual(place_of(book.worths, numbers[place]), place)
                        self.assertEqual(number_at(book.worths, ring[0], place), numbers[place])

    def test_the_first_numbers_one_by_one(self):
        for book in self.books[4::110]:
            met = {}
            for number in range(150):
                least = book.leasts[number]
                place = met.get(least, 0)
                met[least] = place + 1
                with self.subTest(row=book.worths, number=number):
                    self.assertEqual(place_of(book.worths, number), place)
                    self.assertEqual(number_at(book.worths, least, place), number)

    def test_great_numbers(self):
        for book in self.books[2::12]:
            leasts = [ring[0] for ring in book.rings()]
            for number in counted_numbers(book.base)[::2]:
                least = book.leasts[book.fall(number)]
                place = book.great_counts(number)[leasts.index(least)]
                with self.subTest(row=book.worths, number=number):
                    self.assertEqual(place_of(book.worths, number), place)
                    self.assertEqual(number_at(book.worths, least, place), number)

    def test_each_is_the_way_back_of_the_other(self):
        chance = random.Random(17)
        for book in self.books[1::2]:
            number = chance.randrange(book.base ** 20)
            least = ring_of(book.worths, number)[0][0]
            with self.subTest(row=book.worths, number=number):
                self.assertEqual(number_at(book.worths, least, place_of(book.worths, number)), number)

    def test_the_last_place_of_each_ring_and_the_one_behind_it(self):
        for book in self.books[1::8]:
            for ring, many in zip(book.rings(), counts_below(book.worths, book.base ** 20)):
                with self.subTest(row=book.worths, least=ring[0]):
                    last = number_at(book.worths, ring[0], many - 1)
                    self.assertLess(last, book.base ** 20)
                    self.assertEqual(ring_of(book.worths, last)[0], ring)
                    self.assertEqual(place_of(book.worths, last), many - 1)
                    self.assertRaises(NoPlace, number_at, book.worths, ring[0], many)
                    self.assertRaises(NoPlace, number_at, book.worths, ring[0], many + 1)

    def test_the_last_number_of_20_figures(self):
        for book in self.books[::3]:
            last = book.base ** 20 - 1
            ring = book.ring(last)[0]
            many = counts_below(book.worths, book.base ** 20)[book.rings().index(ring)]
            with self.subTest(row=book.worths):
                self.assertEqual(place_of(book.worths, last), many - 1)
                self.assertEqual(number_at(book.worths, ring[0], many - 1), last)

    def test_a_number_that_is_the_least_of_no_ring(self):
        for book in self.books[::6]:
            leasts = [ring[0] for ring in book.rings()]
            others = [number for ring in book.rings() for number in ring[1:]]
            others.extend(number for number in range(0, 460, 31) if number not in leasts)
            others.extend([-GREAT, -1, 451, 1000, 1001, book.base ** 20, GREAT])
            for least in others:
                if least not in leasts:
                    with self.subTest(row=book.worths, least=least):
                        self.assertRaises(NoRing, number_at, book.worths, least, 0)


class Places(unittest.TestCase):
    def test_by_hand(self):
        # 5, 14, 23, 32 and so on, each 9 more, come to the ring of 5.
        self.assertEqual([place_of(TENS, number) for number in (0, 5, 14, 23, 5 + 9 * 1000)], [0, 0, 1, 2, 1000])
        self.assertEqual([number_at(TENS, 5, place) for place in (0, 1, 2, 1000)], [5, 14, 23, 5 + 9 * 1000])
        self.assertEqual(number_at(TENS, 0, 0), 0)
        self.assertEqual(place_of(TENS, 10 ** 20 - 1), (10 ** 20 - 1) // 9 - 1)

    def test_one_ring_that_all_numbers_come_to(self):
        for base in BASES:
            for number in (0, 1, base - 1, base, base ** 19 - 1, base ** 19, base ** 20 - 1):
                self.assertEqual(place_of([0] * base, number), number)
                self.assertEqual(number_at((0,) * base, 0, number), number)
            self.assertRaises(NoPlace, number_at, [0] * base, 0, base ** 20)

    def test_the_least_number_that_comes_to_a_ring_has_the_place_0(self):
        # 0 comes to the ring of 5, so that 5 itself has the place 1.
        row = [5, 1, 2, 3, 4, 5]
        self.assertEqual((place_of(row, 0), place_of(row, 5)), (0, 1))
        self.assertEqual((number_at(row, 5, 0), number_at(row, 5, 1)), (0, 5))

    def test_a_ring_of_several_is_named_by_its_least_number_alone(self):
        # 0 falls to 2, 2 to 1 and 1 to 0.
        row = [2, 0, 1]
        self.assertEqual([number_at(row, 0, place) for place in range(5)], [0, 1, 2, 3, 4])
        self.assertRaises(NoRing, number_at, row, 1, 0)
        self.assertRaises(NoRing, number_at, row, 2, 0)

    def test_bad_numbers(self):
        for base in BASES:
            for row in ([1] * base, [0] * base, list(range(base))):
                for number in (-GREAT, -base, -1, base ** 20, base ** 20 + 1, base ** 1001, GREAT):
                    with self.subTest(row=row):
                        self.assertRaises(BadNumber, place_of, row, number)
                        self.assertRaises(BadNumber, place_of, tuple(row), number)

    def test_bad_places(self):
        for base in BASES:
            row = list(range(base))
            for least in rings_of(row):
                for place in (-GREAT, -base, -1, base ** 20, GREAT):
                    with self.subTest(row=row):
                        self.assertRaises(NoPlace, number_at, row, least[0], place)
            # Nought is the only number that comes to the ring of nought.
            self.assertEqual(number_at(row, 0, 0), 0)
            self.assertRaises(NoPlace, number_at, row, 0, 1)

    def test_places_go_up_with_the_numbers(self):
        for row in many_books()[7::90]:
            for ring in rings_of(row):
                last = counts_below(row, len(row) ** 20)[rings_of(row).index(ring)] - 1
                tried = {0, 1, 2, last // 3, last // 2, last - 1, last}
                places = sorted(place for place in tried if 0 <= place <= last)
                numbers = [number_at(row, ring[0], place) for place in places]
                with self.subTest(row=row, least=ring[0]):
                    self.assertEqual(numbers, sorted(set(numbers)))
                    self.assertEqual([place_of(row, number) for number in numbers], places)

    def test_all_of_the_first_numbers_of_a_ring(self):
        for row in ([0, 1, 4, 9, 16, 25, 36, 49], [3, 50, 0], [1, 2] * 8):
            book = PlainBook(row)
            for ring in book.rings():
                numbers = book.first_numbers_of(ring[0])[:60]
                with self.subTest(row=row, least=ring[0]):
                    self.assertEqual([number_at(row, ring[0], place) for place in range(len(numbers))], numbers)


if __name__ == "__main__":
    unittest.main()
