"""Walks of falling numbers, the bound of a book, and its rings."""

from figurefall.falls import check_worths, fallen
from figurefall.figures import check_number

# In base 2, where rows are longest, 9 figures are worth at most 450, and n figures from 10 on are worth at most
# 50 * n, which is less than the least number of n figures: so every number from 451 on falls to a lesser one.
MOST_BOUND = 451


def walk_of(worths, number):
    check_worths(worths)
    check_number(number, len(worths))
    walk = []
    met = {}
    now = number
    while now not in met:
        met[now] = True
        walk.append(now)
        now = fallen(worths, now)
    return walk


def least_first(ring):
    start = ring.index(min(ring))
    return ring[start:] + ring[:start]


def ring_of(worths, number):
    walk = walk_of(worths, number)
    # The walk stops where it would come to a number anew: that one is where it came onto the ring.
    first = fallen(worths, walk[len(walk) - 1])
    falls = walk.index(first)
    return (least_first(walk[falls:]), falls)


def bound_of(worths):
    check_worths(worths)
    bound = 1
    for number in range(MOST_BOUND):
        if fallen(worths, number) >= number:
            bound = number + 1
    return bound


def rings_of(worths):
    bound = bound_of(worths)
    rings = []
    met_from = {}
    for start in range(bound):
        now = start
        while now not in met_from:
            met_from[now] = start
            now = fallen(worths, now)
        # Only a walk that comes round to itself has found a new ring; one that meets an earlier walk shares its ring.
        if met_from[now] == start:
            rings.append(ring_of(worths, now)[0])
    # Each ring begins with its least number and no two share one, so this is the order of their least numbers.
    return sorted(rings)
