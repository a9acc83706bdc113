"""What the document asks, worked out the slow and plain way and without the program, and books to try it on."""

import functools
import random

BASES = range(2, 17)
# Numbers below it fall to numbers below it in every book: ten figures of base 2 are worth at most 500.
SMALL = 1024
GREAT = 10 ** 5000


def plain_row(number, base):
    """The greatest place first, by taking away the place's power as often as it goes."""
    power = 1
    while power * base <= number:
        power *= base
    row = []
    while power > 0:
        figure = 0
        while number >= power:
            number -= power
            figure += 1
        row.append(figure)
        power //= base
    return row


@functools.lru_cache(maxsize=None)
def small_rows(base):
    return [plain_row(number, base) for number in range(SMALL)]


class PlainBook:
    def __init__(self, worths):
        self.worths = worths
        self.base = len(worths)
        self.table = [self.worth_of_row(row) for row in small_rows(self.base)]
        self.on_rings = self.numbers_on_rings()

    def worth_of_row(self, row):
        total = 0
        for figure in row:
            total += self.worths[figure]
        return total

    def fall(self, number):
        if number < SMALL:
            return self.table[number]
        return self.worth_of_row(plain_row(number, self.base))

    def numbers_on_rings(self):
        """All small numbers fall together, again and again: those that are left for good stand on rings."""
        left = set(range(SMALL))
        while True:
            fallen = {self.table[number] for number in left}
            if fallen == left:
                return left
            left = fallen

    def walk(self, number):
        walk = []
        while number not in walk:
            walk.append(number)
            number = self.fall(number)
        return walk

    def ring_through(self, number):
        ring = [number]
        while self.fall(ring[-1]) != number:
            ring.append(self.fall(ring[-1]))
        while ring[0] != min(ring):
            ring.append(ring.pop(0))
        return ring

    def ring(self, number):
        falls = 0
        while number not in self.on_rings:
            number = self.fall(number)
            falls += 1
        return (self.ring_through(number), falls)

    def bound(self):
        return max(number for number in range(SMALL) if self.table[number] >= number) + 1

    def rings(self):
        left = set(self.on_rings)
        rings = []
        while left:
            rings.append(self.ring_through(min(left)))
            left -= set(rings[-1])
        return rings


def lone_worth_books():
    for base in BASES:
        for figure in sorted({0, 1, base // 2, base - 1}):
            for worth in (1, 13, 50):
                row = [0] * base
                row[figure] = worth
                yield row


def chance_books():
    chance = random.Random(20)
    for base in BASES:
        for most in (1, 3, 9, 25, 50, 50, 50, 50):
            yield [chance.randint(0, most) for figure in range(base)]


def many_books():
    """All worths 0, all alike, each figure worth itself, squares, one figure alone worth something, and any."""
    books = []
    for base in BASES:
        for worth in (0, 1, 2, 7, 31, 49, 50):
            books.append([worth] * base)
        books.append(list(range(base)))
        books.append([50 - figure for figure in range(base)])
    # Squares of figures from 8 on are more than any worth may be.
    for base in range(2, 9):
        books.append([figure * figure for figure in range(base)])
    books.extend(lone_worth_books())
    books.extend(chance_books())
    return books


def great_numbers(base):
    chance = random.Random(base)
    mixed = 1
    for place in range(1000):
        mixed = mixed * base + chance.randrange(base)
    return [base ** 20 - 1, base ** 20, base ** 500 + 1, base ** 1000 - 1, base ** 1000, mixed, base ** 1001 - 1]
