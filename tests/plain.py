"""What the document asks, worked out the slow and plain way and without the program, and books to try it on."""

import collections
import functools
import random

BASES = range(2, 17)
# Numbers below it fall to numbers below it in every book: ten figures of base 2 are worth at most 500.
SMALL = 1024
# So many numbers from 0 on are let fall one by one in each book; none of them falls to SMALL or beyond.
FIRST = 5000
GREAT = 10 ** 5000


def plain_row(number, base):
    """The greatest place first, by taking away the place's power as often as it goes."""
    power = 1
    while power * base <= number:
        power *= base
    row = []
    while power > 0:
        figure = 0
        while number >= power:
            number -= power
            figure += 1
        row.append(figure)
        power //= base
    return row


@functools.lru_cache(maxsize=None)
def first_rows(base):
    return [plain_row(number, base) for number in range(FIRST)]


class PlainBook:
    def __init__(self, worths):
        self.worths = worths
        self.base = len(worths)
        self.table = [self.worth_of_row(row) for row in first_rows(self.base)]
        self.on_rings = self.numbers_on_rings()

    def worth_of_row(self, row):
        total = 0
        for figure in row:
            total += self.worths[figure]
        return total

    def fall(self, number):
        if number < FIRST:
            return self.table[number]
        return self.worth_of_row(plain_row(number, self.base))

    def numbers_on_rings(self):
        """All small numbers fall together, again and again: those that are left for good stand on rings."""
        left = set(range(SMALL))
        while True:
            fallen = {self.table[number] for number in left}
            if fallen == left:
                return left
            left = fallen

    def walk(self, number):
        walk = []
        while number not in walk:
            walk.append(number)
            number = self.fall(number)
        return walk

    def ring_through(self, number):
        ring = [number]
        while self.fall(ring[-1]) != number:
            ring.append(self.fall(ring[-1]))
        while ring[0] != min(ring):
            ring.append(ring.pop(0))
        return ring

    def ring(self, number):
        falls = 0
        while number not in self.on_rings:
            number = self.fall(number)
            falls += 1
        return (self.ring_through(number), falls)

    def bound(self):
        return max(number for number in range(SMALL) if self.table[number] >= number) + 1

    def rings(self):
        left = set(self.on_rings)
        rings = []
        while left:
            rings.append(self.ring_through(min(left)))
            left -= set(rings[-1])
        return rings

    @functools.cached_property
    def leasts(self):
        """For each of the first numbers, the least number of the ring that it comes to."""
        small = [self.ring(number)[0][0] for number in range(SMALL)]
        return [small[fall] for fall in self.table]

    def in_order_of_rings(self, count_by_least):
        return [count_by_least.get(ring[0], 0) for ring in self.rings()]

    def counts(self, limit):
        return self.in_order_of_rings(collections.Counter(self.leasts[:limit]))

    def first_numbers_of(self, least):
        return [number for number in range(FIRST) if self.leasts[number] == least]

    def sums_below(self, limit):
        """How many numbers below the limit fall to each sum; each great one is a lesser one with a figure behind it."""
        if limit <= FIRST:
            return collections.Counter(self.table[:limit])
        ahead, last = divmod(limit, self.base)
        shorter = self.sums_below(ahead)
        # No figure is put behind nought, but all the figures are numbers themselves.
        shorter[self.worths[0]] -= 1
        sums = collections.Counter(self.worths)
        for total, many in shorter.items():
            for worth in self.worths:
                sums[total + worth] += many
        for figure in range(last):
            sums[self.fall(ahead) + self.worths[figure]] += 1
        return sums

    def great_counts(self, limit):
        counts = collections.Counter()
        for total, many in self.sums_below(limit).items():
            counts[self.leasts[total]] += many
        return self.in_order_of_rings(counts)

    def spread(self, length):
        """By letting all numbers of just so many figures fall, where they are few enough for it."""
        least = 0 if length == 1 else self.base ** (length - 1)
        sums = collections.Counter(self.table[least:self.base ** length])
        return [sums[total] for total in range(50 * length + 1)]

    def fewest(self, target):
        """One figure more at a time, until no new sum is found."""
        found = {0: 0}
        newest = {0}
        figures = 0
        while newest:
            figures += 1
            sums = {total + worth for total in newest for worth in self.worths}
            newest = {total for total in sums if total <= target and total not in found}
            found.update((total, figures) for total in newest)
        return [found.get(total) for total in range(target + 1)]

    def least_numbers(self, most, figures):
        """The least number for each sum up to most that a number of at most so many figures falls to."""
        leasts = {self.worths[0]: 0}
        newest = {}
        for number in range(1, self.base):
            newest.setdefault(self.worths[number], number)
        for length in range(1, figures + 1):
            for total, number in newest.items():
                leasts.setdefault(total, number)
            longer = {}
            for total, number in newest.items():
                for figure, worth in enumerate(self.worths):
                    if total + worth <= most:
                        longer.setdefault(total + worth, []).append(number * self.base + figure)
            newest = {total: min(numbers) for total, numbers in longer.items()}
        return leasts


def lone_worth_books():
    for base in BASES:
        for figure in sorted({0, 1, base // 2, base - 1}):
            for worth in (1, 13, 50):
                row = [0] * base
                row[figure] = worth
                yield row


def chance_books():
    chance = random.Random(20)
    for base in BASES:
        for most in (1, 3, 9, 25, 50, 50, 50, 50):
            yield [chance.randint(0, most) for figure in range(base)]


def many_books():
    """All worths 0, all alike, each figure worth itself, squares, one figure alone worth something, and any."""
    books = []
    for base in BASES:
        for worth in (0, 1, 2, 7, 31, 49, 50):
            books.append([worth] * base)
        books.append(list(range(base)))
        books.append([50 - figure for figure in range(base)])
    # Squares of figures from 8 on are more than any worth may be.
    for base in range(2, 9):
        books.append([figure * figure for figure in range(base)])
    books.extend(lone_worth_books())
    books.extend(chance_books())
    return books


@functools.lru_cache(maxsize=None)
def plain_books():
    """One for each of the many books, made once for all tests, none of which changes them."""
    return tuple(PlainBook(row) for row in many_books())


def counted_numbers(base):
    """Numbers of up to 20 figures: those round each new figure, and some in between."""
    chance = random.Random(base)
    numbers = [base ** length + near for length in (7, 13, 19) for near in (-1, 0, 1)]
    numbers.extend(chance.randrange(base ** length) for length in (8, 14, 19, 20, 20))
    return numbers + [base ** 20 - 1]


def great_numbers(base):
    chance = random.Random(base)
    mixed = 1
    for place in range(1000):
        mixed = mixed * base + chance.randrange(base)
    return [base ** 20 - 1, base ** 20, base ** 500 + 1, base ** 1000 - 1, base ** 1000, mixed, base ** 1001 - 1]
