"""Places of numbers among those that come to the same ring, and the way back."""

from figurefall.counts import MOST_COUNTED, counts_below, first_uncounted, ring_places
from figurefall.errors import BadNumber, NoPlace, NoRing
from figurefall.falls import MOST_WORTH, check_worths
from figurefall.walks import ring_of, rings_of


def check_counted(number, base):
    if number < 0 or number >= first_uncounted(base):
        raise BadNumber("a number that has a place is 0 or greater and has at most 20 figures")


def place_of(worths, number):
    check_worths(worths)
    check_counted(number, len(worths))
    ring = ring_of(worths, number)[0]
    return counts_below(worths, number)[rings_of(worths).index(ring)]


def place_of_ring(worths, least):
    leasts = [ring[0] for ring in rings_of(worths)]
    if least not in leasts:
        raise NoRing("a ring is named by its least number")
    return leasts.index(least)


def sum_behind(ways, ahead, worths):
    return sum([ways[ahead + worth] for worth in worths])


# At place n, for each n below 20, a list that has at place s in how many ways n figures, noughts at any place, can be
# put behind figures that are worth s so that the number comes to the ring.
def ways_behind(worths, ring_place):
    ways = [1 if place == ring_place else 0 for place in ring_places(worths)]
    behind = [ways]
    for more in range(1, MOST_COUNTED):
        # Each figure put behind may be worth MOST_WORTH, and as much less may those ahead be worth.
        ways = [sum_behind(ways, ahead, worths) for ahead in range(len(ways) - MOST_WORTH)]
        behind.append(ways)
    return behind


# The number that begins with the first figure, has so many more behind it and comes to the ring, and that has just as
# many such ones below it as are left to pass over.
def filled_up(worths, first, behind, more, left):
    number = first
    ahead = worths[first]
    while more > 0:
        more -= 1
        figure = 0
        while left >= behind[more][ahead + worths[figure]]:
            left -= behind[more][ahead + worths[figure]]
            figure += 1
        number = number * len(worths) + figure
        ahead += worths[figure]
    return number


def number_at(worths, least, place):
    check_worths(worths)
    ring_place = place_of_ring(worths, least)
    if place < 0:
        raise NoPlace("a place is 0 or greater")
    behind = ways_behind(worths, ring_place)
    left = place
    for more in range(MOST_COUNTED):
        # Nought is the only number that begins with the figure 0.
        for first in range(0 if more == 0 else 1, len(worths)):
            many = behind[more][worths[first]]
            if left < many:
                return filled_up(worths, first, behind, more, left)
            left -= many
    raise NoPlace("no number of at most 20 figures has that place")
