"""The stretches whose sum is just a total: one of them, or that there is none, and how many there are."""

from beststretch.answers import Exact, Never
from beststretch.errors import BadTotal
from beststretch.rows import check_row, is_whole, running_sums


def check_total(total):
    if not is_whole(total):
        raise BadTotal("a total is a whole number")


def exact(row, total):
    check_row(row)
    check_total(total)
    firsts = {}
    lasts = {}
    for place, found in enumerate(running_sums(row)):
        # Asked ahead of storing, so that no stretch of no place is told for the total 0.
        if found - total in firsts:
            first = firsts[found - total]
            return Exact(first, place - first)
        firsts.setdefault(found, place)
        lasts[found] = place
    return Never([(number, firsts[number], lasts[number]) for number in sorted(firsts)])


def how_many(row, total):
    check_row(row)
    check_total(total)
    ahead = {}
    stretches = 0
    for found in running_sums(row):
        stretches = stretches + ahead.get(found - total, 0)
        ahead[found] = ahead.get(found, 0) + 1
    return stretches
