"""Books kept by name, whose worths can be told anew and taken back."""

from figurefall.counts import counts_below, counts_one_by_one, many_of, spread_of
from figurefall.errors import HouseFull, NameTaken, NotKept, NothingTold
from figurefall.falls import check_worth, check_worths, fall_of
from figurefall.figures import check_figures
from figurefall.leasts import least_of, sums_to
from figurefall.places import number_at, place_of
from figurefall.walks import bound_of, ring_of, rings_of, walk_of

MOST_BOOKS = 20
MOST_KEPT = 200


class Book:
    # A copy, since whoever handed the worths in may change them afterwards.
    def __init__(self, worths):
        self.worths = list(worths)
        self.told = []


class House:
    def __init__(self):
        self.books = {}

    def book_of(self, name):
        if name not in self.books:
            raise NotKept("no book of that name is kept")
        return self.books[name]

    def keep(self, name, worths):
        if name in self.books:
            raise NameTaken("a book of that name is kept already")
        if len(self.books) >= MOST_BOOKS:
            raise HouseFull("a house keeps at most 20 books")
        check_worths(worths)
        self.books[name] = Book(worths)

    def drop(self, name):
        self.book_of(name)
        self.books.pop(name)

    def names(self):
        return list(self.books)

    def worths_of(self, name):
        return list(self.book_of(name).worths)

    def tell(self, name, figure, worth):
        book = self.book_of(name)
        check_figures([figure], len(book.worths))
        check_worth(worth)
        ahead = book.worths[figure]
        book.worths[figure] = worth
        book.told.append((figure, ahead, worth))
        if len(book.told) > MOST_KEPT:
            book.told.pop(0)
        return ahead

    def take_back(self, name):
        book = self.book_of(name)
        if len(book.told) == 0:
            raise NothingTold("no telling is kept in that book")
        telling = book.told.pop()
        book.worths[telling[0]] = telling[1]
        return (telling[0], telling[1])

    def tellings(self, name):
        return list(self.book_of(name).told)

    def fall_of(self, name, number):
        return fall_of(self.book_of(name).worths, number)

    def walk_of(self, name, number):
        return walk_of(self.book_of(name).worths, number)

    def ring_of(self, name, number):
        return ring_of(self.book_of(name).worths, number)

    def bound_of(self, name):
        return bound_of(self.book_of(name).worths)

    def rings_of(self, name):
        return rings_of(self.book_of(name).worths)

    def counts_below(self, name, limit):
        return counts_below(self.book_of(name).worths, limit)

    def counts_one_by_one(self, name, limit):
        return counts_one_by_one(self.book_of(name).worths, limit)

    def spread_of(self, name, length):
        return spread_of(self.book_of(name).worths, length)

    def many_of(self, name, length, target):
        return many_of(self.book_of(name).worths, length, target)

    def place_of(self, name, number):
        return place_of(self.book_of(name).worths, number)

    def number_at(self, name, least, place):
        return number_at(self.book_of(name).worths, least, place)

    def sums_to(self, name, target):
        return sums_to(self.book_of(name).worths, target)

    def least_of(self, name, target):
        return least_of(self.book_of(name).worths, target)
