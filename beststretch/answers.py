"""The answers: what is told of a row, and whether that shows that nothing better is there."""

from beststretch.rows import against_mean, is_ring_stretch, is_stretch, running_sums, stretch_sum, turned_inner


def lows_bound(lows, row, least, number):
    found = running_sums(row)
    # Below 0 the least count would ask for sums behind the last one.
    if least < 0 or len(lows) != len(found) - least:
        return False
    for place, low in enumerate(lows):
        if low > found[place] or found[place + least] - low > number:
            return False
        if place > 0 and low > lows[place - 1]:
            return False
    return True


def tops_bound(tops, row, number):
    if len(row) < 3:
        return len(tops) == 0
    return lows_bound(tops, turned_inner(row), 1, number - sum(row))


def is_rising(table):
    numbers = [entry[0] for entry in table]
    return all([low < high for low, high in zip(numbers, numbers[1:])])


def table_has_sums(table, row):
    spans = {}
    for number, first, last in table:
        spans[number] = (first, last)
    for place, found in enumerate(running_sums(row)):
        if found not in spans:
            return False
        if place < spans[found][0] or place > spans[found][1]:
            return False
    return True


def table_rules_out(table, total):
    lasts = {}
    for number, first, last in table:
        lasts[number] = last
    for number, first, last in table:
        if number + total in lasts and first < lasts[number + total]:
            return False
    return True


def stand_in_order(stretches, row):
    free = 0
    for first, many in stretches:
        if first < free or not is_stretch(row, first, many):
            return False
        free = first + many
    return True


def price_bounds(price, outs, ins, row):
    if len(outs) != len(row) + 1 or len(ins) != len(row):
        return False
    if price < 0 or outs[0] < 0:
        return False
    for place, number in enumerate(row):
        if ins[place] < outs[place] - price + number:
            return False
        if place > 0 and ins[place] < ins[place - 1] + number:
            return False
        if outs[place + 1] < outs[place] or outs[place + 1] < ins[place]:
            return False
    return True


class Answer:
    pass


class Best(Answer):
    def __init__(self, first, many, lows):
        self.first = first
        self.many = many
        self.lows = list(lows)

    def shows(self, row, least):
        if self.many < least or not is_stretch(row, self.first, self.many):
            return False
        return lows_bound(self.lows, row, least, stretch_sum(row, self.first, self.many))


class Steep(Answer):
    def __init__(self, first, many, lows):
        self.first = first
        self.many = many
        self.lows = list(lows)

    def shows(self, row, least):
        if self.many < least or not is_stretch(row, self.first, self.many):
            return False
        return lows_bound(self.lows, against_mean(row, self.first, self.many), least, 0)


class Around(Answer):
    def __init__(self, first, many, lows, tops):
        self.first = first
        self.many = many
        self.lows = list(lows)
        self.tops = list(tops)

    def shows(self, row):
        if not is_ring_stretch(row, self.first, self.many):
            return False
        reached = stretch_sum(row + row, self.first, self.many)
        return lows_bound(self.lows, row, 1, reached) and tops_bound(self.tops, row, reached)


class Exact(Answer):
    def __init__(self, first, many):
        self.first = first
        self.many = many

    def shows(self, row, total):
        if not is_stretch(row, self.first, self.many):
            return False
        return stretch_sum(row, self.first, self.many) == total


class Never(Answer):
    def __init__(self, table):
        self.table = list(table)

    def shows(self, row, total):
        if not is_rising(self.table) or not table_has_sums(self.table, row):
            return False
        return table_rules_out(self.table, total)


class Several(Answer):
    def __init__(self, stretches, price, outs, ins):
        self.stretches = list(stretches)
        self.price = price
        self.outs = list(outs)
        self.ins = list(ins)

    def shows(self, row, many):
        if len(self.stretches) > many or not stand_in_order(self.stretches, row):
            return False
        if not price_bounds(self.price, self.outs, self.ins, row):
            return False
        reached = sum([stretch_sum(row, first, places) for first, places in self.stretches])
        return self.outs[-1] + self.price * many <= reached
