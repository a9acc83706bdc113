"""How many numbers come to which ring, and how many fall to which sum.

A tally is a list that has at place s how many of some numbers fall to s.
"""

from figurefall.errors import BadLength, BadNumber, BadTarget
from figurefall.falls import MOST_WORTH, check_worths, fallen
from figurefall.figures import taken_apart
from figurefall.walks import bound_of, ring_of, rings_of

MOST_COUNTED = 20
MOST_ONE_BY_ONE = 3000
MOST_TARGET = 1000

# No number of at most 20 figures falls to more than 20 * 50.
MOST_FALL = 1000


# The least number that has too many figures to be counted.
def first_uncounted(base):
    return base ** 20


def check_limit(limit, most):
    if limit < 0 or limit > most:
        raise BadNumber("a limit is 0 or greater, and not beyond what can be counted")


def check_length(length):
    if length < 1 or length > MOST_COUNTED:
        raise BadLength("a length is a number from 1 to 20")


def check_target(target):
    if target < 0 or target > MOST_TARGET:
        raise BadTarget("a target is a number from 0 to 1000")


# For each number from 0 to MOST_FALL, which of all rings it comes to, as that ring's place in rings_of.
def ring_places(worths):
    place_by_least = {}
    for place, ring in enumerate(rings_of(worths)):
        place_by_least[ring[0]] = place
    bound = bound_of(worths)
    places = [place_by_least[ring_of(worths, number)[0][0]] for number in range(bound)]
    # From the bound on a number falls to a lesser one, whose ring is known by then and is its own too.
    for number in range(bound, MOST_FALL + 1):
        places.append(places[fallen(worths, number)])
    return places


# The tally of all numbers that come of the tallied ones by putting one figure behind, whichever it is.
def lengthened(tally, worths):
    longer = [0] * (len(tally) + MOST_WORTH)
    for total, many in enumerate(tally):
        if many > 0:
            for worth in worths:
                longer[total + worth] += many
    return longer


def add_each(tally, ahead, worths):
    for worth in worths:
        tally[ahead + worth] += 1


# The numbers below the limit, all at once: each is told apart from the limit at one place, from which on its figures
# are free, so that those told apart at one place are lengthened together with those told apart further ahead.
def tally_below(worths, limit):
    row = taken_apart(limit, len(worths))
    tally = [0] * (MOST_WORTH + 1)
    add_each(tally, 0, worths[1:row[0]])
    ahead = worths[row[0]]
    for figure in row[1:]:
        tally = lengthened(tally, worths)
        # Those that have fewer figures than the limit, and begin here.
        add_each(tally, 0, worths[1:])
        # Those that are written like the limit up to here, where they have a lesser figure.
        add_each(tally, ahead, worths[:figure])
        ahead += worths[figure]
    # Nought alone begins with the figure 0.
    if limit > 0:
        tally[worths[0]] += 1
    return tally


def counts_below(worths, limit):
    check_worths(worths)
    check_limit(limit, first_uncounted(len(worths)))
    counts = [0] * len(rings_of(worths))
    places = ring_places(worths)
    for total, many in enumerate(tally_below(worths, limit)):
        # A number comes to the ring that its fall comes to; beyond MOST_FALL there is none.
        if many > 0:
            counts[places[total]] += many
    return counts


def counts_one_by_one(worths, limit):
    check_worths(worths)
    check_limit(limit, MOST_ONE_BY_ONE)
    count_by_least = {}
    for ring in rings_of(worths):
        count_by_least[ring[0]] = 0
    for number in range(limit):
        count_by_least[ring_of(worths, number)[0][0]] += 1
    return list(count_by_least.values())


# The worths and the length are taken as checked already.
def spread(worths, length):
    firsts = worths if length == 1 else worths[1:]
    tally = lengthened([1], firsts)
    for place in range(length - 1):
        tally = lengthened(tally, worths)
    return tally


def spread_of(worths, length):
    check_worths(worths)
    check_length(length)
    return spread(worths, length)


def many_of(worths, length, target):
    check_worths(worths)
    check_length(length)
    check_target(target)
    tally = spread(worths, length)
    return tally[target] if target < len(tally) else 0
