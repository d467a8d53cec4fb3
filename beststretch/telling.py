"""The stretch of the greatest sum, of the greatest mean, and of the greatest sum on a ring."""

from beststretch.answers import Around, Best, Steep
from beststretch.errors import BadLeast
from beststretch.rows import against_mean, check_row, is_whole, running_sums, stretch_sum, turned_inner


def check_least(row, least):
    if not is_whole(least) or least < 1 or least > len(row):
        raise BadLeast("a least count is a whole number from 1 to the count of numbers")


# It refuses nothing, because it is also asked of rows whose numbers go beyond the bounds of a row handed in.
def best_of(row, least):
    found = running_sums(row)
    lows = []
    lowest = 0
    first = 0
    many = least
    for place in range(len(found) - least):
        if found[place] < found[lowest]:
            lowest = place
        lows.append(found[lowest])
        end = place + least
        if found[end] - found[lowest] > found[first + many] - found[first]:
            first = lowest
            many = end - lowest
    return Best(first, many, lows)


def best(row, least):
    check_row(row)
    check_least(row, least)
    return best_of(row, least)


def steepest(row, least):
    check_row(row)
    check_least(row, least)
    first = 0
    many = len(row)
    # It ends, because each rival that is taken has a greater mean than the one ahead.
    while True:
        other = against_mean(row, first, many)
        rival = best_of(other, least)
        if stretch_sum(other, rival.first, rival.many) <= 0:
            return Steep(first, many, rival.lows)
        first = rival.first
        many = rival.many


def around(row):
    check_row(row)
    if len(row) == 0:
        raise BadLeast("a ring has one number or more")
    straight = best_of(row, 1)
    if len(row) < 3:
        return Around(straight.first, straight.many, straight.lows, [])
    turned = turned_inner(row)
    gap = best_of(turned, 1)
    across = sum(row) + stretch_sum(turned, gap.first, gap.many)
    if across <= stretch_sum(row, straight.first, straight.many):
        return Around(straight.first, straight.many, straight.lows, gap.lows)
    # The gap's places are counted from the second number of the row.
    behind = 1 + gap.first + gap.many
    return Around(behind, len(row) - gap.many, straight.lows, gap.lows)
