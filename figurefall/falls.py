"""Worths of figures, and what a number falls to."""

from figurefall.errors import BadWorth
from figurefall.figures import check_base, check_number, taken_apart

MOST_WORTH = 50


def check_worth(worth):
    if worth < 0 or worth > MOST_WORTH:
        raise BadWorth("a worth is a number from 0 to 50")


def check_worths(worths):
    check_base(len(worths))
    for worth in worths:
        check_worth(worth)


# Apart from fall_of, so that a walk checks its worths and its first number once and not at each fall.
def fallen(worths, number):
    return sum([worths[figure] for figure in taken_apart(number, len(worths))])


def fall_of(worths, number):
    check_worths(worths)
    check_number(number, len(worths))
    return fallen(worths, number)
