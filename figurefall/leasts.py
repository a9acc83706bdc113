"""Sums of worths, and the least numbers that fall to them."""

from figurefall.counts import check_target
from figurefall.falls import check_worths


# The table must hold all lesser sums already. A figure worth nothing never makes it fewer figures.
def fewest_for(table, worths, total):
    tried = [table[total - worth] for worth in worths if worth > 0 and worth <= total]
    found = [many for many in tried if many is not None]
    return min(found) + 1 if len(found) > 0 else None


# The worths and the target are taken as checked already.
def table_to(worths, target):
    table = [0]
    for total in range(1, target + 1):
        table.append(fewest_for(table, worths, total))
    return table


def sums_to(worths, target):
    check_worths(worths)
    check_target(target)
    return table_to(worths, target)


# Of the figures that a number may begin with, the one that wants the fewest behind it, and the least of several such.
def best_first(table, worths, target):
    best = None
    fewest = None
    for figure in range(1, len(worths)):
        left = target - worths[figure]
        if left >= 0 and table[left] is not None:
            if fewest is None or table[left] < fewest:
                best = figure
                fewest = table[left]
    return best


# The least figure that leaves a sum for which one figure fewer is enough.
def best_next(table, worths, left):
    figure = 0
    while worths[figure] > left or table[left - worths[figure]] != table[left] - 1:
        figure += 1
    return figure


def least_of(worths, target):
    check_worths(worths)
    check_target(target)
    if worths[0] == target:
        return 0
    table = table_to(worths, target)
    number = best_first(table, worths, target)
    if number is None:
        return None
    # The number with the fewest figures is the least, and of those the one with the least figures further ahead.
    left = target - worths[number]
    while left > 0:
        figure = best_next(table, worths, left)
        number = number * len(worths) + figure
        left -= worths[figure]
    return number
