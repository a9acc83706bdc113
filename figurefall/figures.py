"""Bases, and numbers written in them by figures and by signs."""

from figurefall.errors import BadBase, BadFigure, BadNumber, BadRow

LEAST_BASE = 2
MOST_BASE = 16
MOST_FIGURES = 1001
SIGNS = "0123456789abcdef"


# No refusal shows the number that it refuses: Python won't write one of some thousand digits as a text.
def check_base(base):
    if base < LEAST_BASE or base > MOST_BASE:
        raise BadBase("a base is a number from 2 to 16")


def fits(number, base):
    limit = 1
    for place in range(MOST_FIGURES):
        limit = limit * base
        # Leaving as soon as the figures are enough keeps small numbers cheap.
        if number < limit:
            return True
    return False


# The base is taken as checked already: its refusal comes ahead of this one.
def check_number(number, base):
    if number < 0:
        raise BadNumber("a number is 0 or greater")
    if not fits(number, base):
        raise BadNumber("a number has at most 1001 figures")


def check_figures(row, base):
    for figure in row:
        if figure < 0 or figure >= base:
            raise BadFigure("a figure is a number from 0 to one less than the base")


def check_row(row):
    if len(row) == 0:
        raise BadRow("a row has at least one figure")
    if len(row) > MOST_FIGURES:
        raise BadRow("a row has at most 1001 figures")
    if len(row) > 1 and row[0] == 0:
        raise BadRow("a row of two or more figures does not begin with 0")


# Apart from figures_of, so that whoever has checked a number once need not check all that it falls to.
def taken_apart(number, base):
    row = [number % base]
    rest = number // base
    while rest > 0:
        row.append(rest % base)
        rest = rest // base
    row.reverse()
    return row


def figures_of(number, base):
    check_base(base)
    check_number(number, base)
    return taken_apart(number, base)


def number_of(row, base):
    check_base(base)
    check_figures(row, base)
    check_row(row)
    number = 0
    for figure in row:
        number = number * base + figure
    return number


def written(number, base):
    return "".join([SIGNS[figure] for figure in figures_of(number, base)])


def read(text, base):
    # A sign that is not in SIGNS is found at one below 0, which is a figure of no base and so refused as such.
    return number_of([SIGNS.find(sign) for sign in text], base)
