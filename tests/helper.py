"""What several test files need: small rows, all their stretches, and lows found by the plainest way."""

import itertools

EDGE = 1000000


def small_rows(counts, numbers):
    for count in counts:
        for row in itertools.product(numbers, repeat=count):
            yield list(row)


def small_lists(count, numbers):
    for found in itertools.product(numbers, repeat=count):
        yield list(found)


def stretches_of(row, least=1):
    places = len(row)
    return [(first, many) for first in range(places) for many in range(least, places - first + 1)]


def near_stretches(row):
    """Every pair around the row: its stretches, and those that just miss being one."""
    return list(itertools.product(range(-2, len(row) + 2), range(-2, len(row) + 3)))


def ring_numbers(row, first, many):
    return [row[(first + step) % len(row)] for step in range(many)]


def sum_to(row, place):
    return sum(row[:place])


def lowest_lows(row, least):
    """The lows that bound a row as closely as any: the least sum so far."""
    return [min(sum_to(row, place) for place in range(last + 1)) for last in range(len(row) + 1 - least)]


def bound_by_words(lows, row, least, number):
    """Point [3], said once more in the order of its words."""
    return (
        len(lows) == len(row) + 1 - least
        and all(low <= sum_to(row, place) for place, low in enumerate(lows))
        and all(later <= ahead for ahead, later in zip(lows, lows[1:]))
        and all(sum_to(row, place + least) - low <= number for place, low in enumerate(lows))
    )


def changed_by_one(numbers):
    """Each list that differs from this one by one in one place."""
    for place in range(len(numbers)):
        for step in (-1, 1):
            yield numbers[:place] + [numbers[place] + step] + numbers[place + 1:]


def of_other_length(numbers):
    """The list a number short at either end, and a number long, with such numbers as might pass."""
    found = [numbers[1:], numbers[:-1]] if numbers else []
    ends = [numbers[0], numbers[-1]] if numbers else [0]
    for more in ends + [-10 * EDGE, 0, 10 * EDGE]:
        found += [[more] + numbers, numbers + [more]]
    return found
