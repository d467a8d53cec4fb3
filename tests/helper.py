"""What several test files need: rows, all their stretches, and what the points say, looked at in the plainest way."""

import functools
import itertools

EDGE = 1000000


def small_rows(counts, numbers):
    for count in counts:
        for row in itertools.product(numbers, repeat=count):
            yield list(row)


def mixed_row(count, bound, seed):
    """A row that is the same at each run, its numbers spread from -bound to bound."""
    row = []
    for place in range(count):
        seed = (seed * 6364136223846793005 + 1442695040888963407) % 2 ** 64
        row.append((seed >> 33) % (2 * bound + 1) - bound)
    return row


def longer_rows():
    """Rows of up to 63 numbers: of small numbers, of great ones, all alike, all below 0, all 0."""
    for count in (7, 20, 63):
        yield mixed_row(count, 1, count)
        yield mixed_row(count, 4, count + 1)
        yield mixed_row(count, EDGE, count + 2)
        yield [-1 - abs(number) for number in mixed_row(count, 5, count + 3)]
        yield [-abs(number) for number in mixed_row(count, EDGE, count + 4)]
    for number in (0, 1, -1, 6, EDGE, -EDGE):
        yield [number] * 63
    yield [EDGE, -EDGE] * 31 + [EDGE]


def small_lists(count, numbers):
    for found in itertools.product(numbers, repeat=count):
        yield list(found)


def stretches_of(row, least=1):
    places = len(row)
    return [(first, many) for first in range(places) for many in range(least, places - first + 1)]


def near_stretches(row):
    """Every pair around the row: its stretches, and those that just miss being one."""
    return list(itertools.product(range(-2, len(row) + 2), range(-2, len(row) + 3)))


def ring_stretches(row):
    return list(itertools.product(range(len(row)), range(1, len(row) + 1)))


def ring_numbers(row, first, many):
    return [row[(first + step) % len(row)] for step in range(many)]


@functools.cache
def choices_from(first, places):
    """Every choice of stretches, in order, that share no place, all of them from a first place on."""
    found = [()]
    for begin in range(first, places):
        for end in range(begin + 1, places + 1):
            found += [((begin, end - begin),) + later for later in choices_from(end, places)]
    return found


def choices(row, many):
    """Every choice of no more than so many stretches, in order, that share no place."""
    return [list(chosen) for chosen in choices_from(0, len(row)) if len(chosen) <= many]


def reached(row, chosen):
    return sum(sum(row[first:first + many]) for first, many in chosen)


def sum_to(row, place):
    return sum(row[:place])


def sums_of_stretches(row):
    """The sum and the count of places of every stretch."""
    to = list(itertools.accumulate(row, initial=0))
    return [(to[first + many] - to[first], many) for first, many in stretches_of(row)]


def lowest_lows(row, least):
    """The lows that bound a row as closely as any: the least sum so far."""
    return [min(sum_to(row, place) for place in range(last + 1)) for last in range(len(row) + 1 - least)]


def other_row(row, first, many):
    whole = sum(row[first:first + many])
    return [number * many - whole for number in row]


def turned(row):
    return [-number for number in row[1:-1]]


def bound_by_words(lows, row, least, number):
    """Point [3], said once more in the order of its words."""
    return (
        len(lows) == len(row) + 1 - least
        and all(low <= sum_to(row, place) for place, low in enumerate(lows))
        and all(later <= ahead for ahead, later in zip(lows, lows[1:]))
        and all(sum_to(row, place + least) - low <= number for place, low in enumerate(lows))
    )


def tops_by_words(tops, row, number):
    """What point [5] says of the tops."""
    if len(row) < 3:
        return tops == []
    return bound_by_words(tops, turned(row), 1, number - sum(row))


def never_by_words(table, row, total):
    """What point [6] says of the table."""
    numbers = [number for number, first, last in table]
    return (
        all(ahead < later for ahead, later in zip(numbers, numbers[1:]))
        and all(
            any(number == sum_to(row, place) and first <= place <= last for number, first, last in table)
            for place in range(len(row) + 1)
        )
        and not any(m + total == n and first < last for m, first, other in table for n, another, last in table)
    )


def several_by_words(made, row, many):
    """Point [7], said once more in the order of its words."""
    price, outs, ins = made.price, made.outs, made.ins
    taken = [place for first, count in made.stretches for place in range(first, first + count)]
    places = range(len(row))
    return (
        all(one in stretches_of(row) for one in made.stretches)
        and taken == sorted(set(taken))
        and len(made.stretches) <= many
        and price >= 0
        and len(outs) == len(row) + 1
        and outs[0] >= 0
        and len(ins) == len(row)
        and all(ins[place] >= outs[place] - price + row[place] for place in places)
        and all(ins[place] >= ins[place - 1] + row[place] for place in places if place > 0)
        and all(outs[place + 1] >= outs[place] for place in places)
        and all(outs[place + 1] >= ins[place] for place in places)
        and outs[-1] + price * many <= sum(row[place] for place in taken)
    )


def changed_by_one(numbers):
    """Each list that differs from this one by one in one place."""
    for place in range(len(numbers)):
        for step in (-1, 1):
            yield numbers[:place] + [numbers[place] + step] + numbers[place + 1:]


def of_other_length(numbers):
    """The list a number short at either end, and a number long, with such numbers as might pass."""
    found = [numbers[1:], numbers[:-1]] if numbers else []
    ends = [numbers[0], numbers[-1]] if numbers else [0]
    for more in ends + [-10 * EDGE, 0, 10 * EDGE]:
        found += [[more] + numbers, numbers + [more]]
    return found
