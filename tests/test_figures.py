"""Points 3 to 5: bases, rows of figures, and texts."""

import random
import unittest

from figurefall import figures
from figurefall.errors import BadBase, BadFigure, BadNumber, BadRow
from figurefall.figures import figures_of, number_of, read, written
from plain import BASES, GREAT, great_numbers, plain_row

BAD_BASES = (-GREAT, -10, -2, -1, 0, 1, 17, 18, 100, GREAT)


def some_numbers(base):
    chance = random.Random(base)
    edges = [base ** place + step for place in (1, 2, 3, 10, 64) for step in (-1, 0, 1)]
    return list(range(300)) + edges + [chance.randrange(base ** 50) for number in range(20)]


class Constants(unittest.TestCase):
    def test_constants(self):
        self.assertEqual(figures.LEAST_BASE, 2)
        self.assertEqual(figures.MOST_BASE, 16)
        self.assertEqual(figures.MOST_FIGURES, 1001)
        self.assertEqual(figures.SIGNS, "0123456789abcdef")


class TakingApart(unittest.TestCase):
    def test_by_hand(self):
        self.assertEqual(figures_of(1000, 10), [1, 0, 0, 0])
        self.assertEqual(figures_of(6, 2), [1, 1, 0])
        self.assertEqual(figures_of(255, 16), [15, 15])
        self.assertEqual(figures_of(256, 16), [1, 0, 0])
        self.assertEqual(figures_of(2026, 7), [5, 6, 2, 3])

    def test_the_answer_is_a_list(self):
        self.assertIs(type(figures_of(5, 3)), list)

    def test_nought_is_the_figure_0_alone(self):
        for base in BASES:
            self.assertEqual(figures_of(0, base), [0])

    def test_every_base(self):
        for base in BASES:
            for number in some_numbers(base):
                with self.subTest(base=base, number=number):
                    self.assertEqual(figures_of(number, base), plain_row(number, base))

    def test_great_numbers(self):
        for base in BASES:
            for number in great_numbers(base):
                with self.subTest(base=base):
                    self.assertEqual(figures_of(number, base), plain_row(number, base))

    def test_1001_figures_and_no_more(self):
        for base in BASES:
            with self.subTest(base=base):
                self.assertEqual(figures_of(base ** 1000, base), [1] + [0] * 1000)
                self.assertEqual(figures_of(base ** 1001 - 1, base), [base - 1] * 1001)
                for number in (base ** 1001, base ** 1001 + 1, base ** 1002, GREAT):
                    self.assertRaises(BadNumber, figures_of, number, base)

    def test_below_nought(self):
        for base in BASES:
            for number in (-1, -2, -base, -(base ** 1001), -GREAT):
                with self.subTest(base=base):
                    self.assertRaises(BadNumber, figures_of, number, base)

    def test_bad_bases(self):
        for base in BAD_BASES:
            for number in (0, 1, 100):
                self.assertRaises(BadBase, figures_of, number, base)


class PuttingTogether(unittest.TestCase):
    def test_by_hand(self):
        self.assertEqual(number_of([1, 0, 0, 0], 10), 1000)
        self.assertEqual(number_of((1, 1, 0), 2), 6)
        self.assertEqual(number_of([15, 15], 16), 255)
        self.assertEqual(number_of((5, 6, 2, 3), 7), 2026)

    def test_the_figure_0_alone(self):
        for base in BASES:
            self.assertEqual(number_of([0], base), 0)
            self.assertEqual(number_of((0,), base), 0)

    def test_each_figure_counts_by_the_places_behind_it(self):
        for base in BASES:
            for number in some_numbers(base) + great_numbers(base):
                row = plain_row(number, base)
                with self.subTest(base=base, row=row):
                    self.assertEqual(number_of(row, base), number)
                    self.assertEqual(number_of(tuple(row), base), number)

    def test_there_and_back(self):
        for base in BASES:
            for number in some_numbers(base) + great_numbers(base):
                with self.subTest(base=base):
                    self.assertEqual(number_of(figures_of(number, base), base), number)

    def test_1001_figures_and_no_more(self):
        for base in BASES:
            with self.subTest(base=base):
                self.assertEqual(number_of([base - 1] * 1001, base), base ** 1001 - 1)
                self.assertEqual(number_of([1] + [0] * 1000, base), base ** 1000)
                for length in (1002, 1003, 5000):
                    self.assertRaises(BadRow, number_of, [1] * length, base)
                    self.assertRaises(BadRow, number_of, (1,) * length, base)

    def test_no_figure(self):
        for base in BASES:
            self.assertRaises(BadRow, number_of, [], base)
            self.assertRaises(BadRow, number_of, (), base)

    def test_noughts_ahead(self):
        for base in BASES:
            for row in ([0, 0], [0, 1], [0, base - 1, 0], [0] * 1001, [0] * 1002):
                with self.subTest(base=base, row=row):
                    self.assertRaises(BadRow, number_of, row, base)
                    self.assertRaises(BadRow, number_of, tuple(row), base)

    def test_bad_figures_at_any_place(self):
        for base in BASES:
            for figure in (-GREAT, -base, -1, base, base + 1, 99, GREAT):
                self.assertRaises(BadFigure, number_of, [figure], base)
                for place in range(6):
                    row = [1, 0, 1, 1, 0, 1]
                    row[place] = figure
                    with self.subTest(base=base, place=place):
                        self.assertRaises(BadFigure, number_of, row, base)
                        self.assertRaises(BadFigure, number_of, tuple(row), base)

    def test_a_bad_figure_comes_ahead_of_a_bad_row(self):
        for base in BASES:
            for row in ([0, base], [0, 0, -1], [1] * 1001 + [base], [-1] + [1] * 1001, [0] * 2000 + [base]):
                with self.subTest(base=base):
                    self.assertRaises(BadFigure, number_of, row, base)

    def test_a_bad_base_comes_ahead_of_all(self):
        for base in BAD_BASES:
            for row in ([0], [1, 1], [], [0, 1], [-1], [GREAT], [1] * 1002):
                self.assertRaises(BadBase, number_of, row, base)


class Writing(unittest.TestCase):
    def test_by_hand(self):
        self.assertEqual(written(0, 2), "0")
        self.assertEqual(written(48879, 16), "beef")
        self.assertEqual(written(6, 2), "110")
        self.assertEqual(written(2026, 10), "2026")
        self.assertEqual(written(143, 12), "bb")

    def test_each_figure_is_its_sign(self):
        for base in BASES:
            for figure in range(base):
                self.assertEqual(written(figure, base), "0123456789abcdef"[figure])

    def test_as_python_writes(self):
        for base, sort in ((2, "b"), (8, "o"), (10, "d"), (16, "x")):
            for number in some_numbers(base) + great_numbers(base):
                with self.subTest(base=base):
                    self.assertEqual(written(number, base), format(number, sort))

    def test_as_python_reads(self):
        for base in BASES:
            for number in some_numbers(base) + great_numbers(base):
                with self.subTest(base=base):
                    self.assertEqual(int(written(number, base), base), number)
                    self.assertEqual(len(written(number, base)), len(plain_row(number, base)))

    def test_1001_signs_and_no_more(self):
        for base in BASES:
            with self.subTest(base=base):
                self.assertEqual(written(base ** 1001 - 1, base), "0123456789abcdef"[base - 1] * 1001)
                for number in (base ** 1001, GREAT, -1, -GREAT):
                    self.assertRaises(BadNumber, written, number, base)

    def test_bad_bases(self):
        for base in BAD_BASES:
            for number in (0, 7, -1, GREAT):
                self.assertRaises(BadBase, written, number, base)


class Reading(unittest.TestCase):
    def test_by_hand(self):
        self.assertEqual(read("beef", 16), 48879)
        self.assertEqual(read("110", 2), 6)
        self.assertEqual(read("bb", 12), 143)

    def test_nought(self):
        for base in BASES:
            self.assertEqual(read("0", base), 0)

    def test_there_and_back(self):
        for base in BASES:
            for number in some_numbers(base) + great_numbers(base):
                with self.subTest(base=base):
                    self.assertEqual(read(written(number, base), base), number)

    def test_as_python_writes(self):
        for base, sort in ((2, "b"), (8, "o"), (10, "d"), (16, "x")):
            for number in some_numbers(base) + great_numbers(base):
                with self.subTest(base=base):
                    self.assertEqual(read(format(number, sort), base), number)

    def test_every_sign_at_any_place(self):
        for base in BASES:
            allowed = "0123456789abcdef"[:base]
            for sign in [chr(code) for code in range(32, 127)]:
                for place in range(4):
                    text = "1011"[:place] + sign + "1011"[place + 1:]
                    with self.subTest(base=base, text=text):
                        if sign not in allowed:
                            self.assertRaises(BadFigure, read, text, base)
                        elif place > 0 or sign != "0":
                            self.assertEqual(read(text, base), int(text, base))
                        else:
                            self.assertRaises(BadRow, read, text, base)

    def test_texts_that_python_would_read(self):
        for text in ("-1", "+1", " 1", "1 ", "1_0", "0x1f", "FF", "fF", "1.0"):
            with self.subTest(text=text):
                self.assertRaises(BadFigure, read, text, 16)

    def test_the_empty_text(self):
        for base in BASES:
            self.assertRaises(BadRow, read, "", base)

    def test_noughts_ahead(self):
        for base in BASES:
            for text in ("00", "01", "010", "0" * 1001, "0" * 1002):
                self.assertRaises(BadRow, read, text, base)

    def test_1001_signs_and_no_more(self):
        for base in BASES:
            with self.subTest(base=base):
                self.assertEqual(read("1" + "0" * 1000, base), base ** 1000)
                for length in (1002, 1003, 5000):
                    self.assertRaises(BadRow, read, "1" * length, base)

    def test_a_bad_sign_comes_ahead_of_a_bad_row(self):
        for base in BASES:
            for text in ("0 ", "0Z", "0-1", "1" * 1001 + "~", "A" + "1" * 1001, " " * 2000):
                with self.subTest(base=base):
                    self.assertRaises(BadFigure, read, text, base)

    def test_a_bad_base_comes_ahead_of_all(self):
        for base in BAD_BASES:
            for text in ("0", "11", "", "01", "Z", " ", "1" * 1002):
                self.assertRaises(BadBase, read, text, base)


if __name__ == "__main__":
    unittest.main()
