"""Rows of whole numbers, their sums from the beginning, and their stretches."""

from beststretch.errors import BadRow

GREATEST = 1000000


# Python counts True and False among its whole numbers; a row does not.
def is_whole(value):
    return isinstance(value, int) and not isinstance(value, bool)


def check_row(row):
    if not isinstance(row, list):
        raise BadRow("a row is a list")
    for number in row:
        if not is_whole(number) or abs(number) > GREATEST:
            raise BadRow("a row holds only whole numbers from -1000000 to 1000000")


# It refuses nothing, because an answer is shown by rows whose numbers go beyond the bounds of a row handed in.
def running_sums(row):
    found = [0]
    for number in row:
        found.append(found[-1] + number)
    return found


def sums(row):
    check_row(row)
    return running_sums(row)


def is_stretch(row, first, many):
    return first >= 0 and many >= 1 and first + many <= len(row)


# No stretch goes round a ring more than once.
def is_ring_stretch(row, first, many):
    return 0 <= first < len(row) and 1 <= many <= len(row)


def stretch_sum(row, first, many):
    return sum(row[first:first + many])


# A stretch of this other row has more than 0 just where it has a greater mean in the row.
def against_mean(row, first, many):
    reached = stretch_sum(row, first, many)
    return [number * many - reached for number in row]


# A stretch across the ring's seam leaves out a stretch that has neither the first nor the last number.
def turned_inner(row):
    return [-number for number in row[1:-1]]
