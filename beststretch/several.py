"""The greatest sum of several stretches that share no place.

Each stretch is made to cost a price, so that fewer of them pay the dearer it is. At the least price at which the best
choice needs no more stretches than the count, that choice, with its prices given back, has the greatest sum.
"""

from beststretch.answers import Several
from beststretch.errors import BadMany
from beststretch.rows import check_row, is_whole


def check_many(many):
    if not is_whole(many) or many < 0:
        raise BadMany("a count of stretches is a whole number from 0 on")


# All is taken so many times over that one more for each stretch only decides between choices of the same worth.
def fewest_at(row, price):
    scale = len(row) + 1
    cost = price * scale + 1
    out = 0
    inside = -cost
    for number in row:
        inside = max(inside, out - cost) + number * scale
        out = max(out, inside)
    return -out % scale


def least_price(row, many):
    low = 0
    # At this price no stretch is worth more than nothing.
    high = sum([number for number in row if number > 0])
    while low < high:
        middle = (low + high) // 2
        if fewest_at(row, middle) <= many:
            high = middle
        else:
            low = middle + 1
    return low


# What the best choices up to a place are worth, and how many stretches they have: each count from the fewest to the
# most is that of one of them. For of two choices, one may go over to the other wherever both are outside, or both
# inside, a stretch; and from one such place to the next their counts part by one at most.
class Worth:
    def __init__(self, amount, fewest, most):
        self.amount = amount
        self.fewest = fewest
        self.most = most

    def more(self, amount, stretches):
        return Worth(self.amount + amount, self.fewest + stretches, self.most + stretches)

    def allows(self, amount, stretches):
        return self.amount == amount and self.fewest <= stretches <= self.most


def better_of(one, other):
    if one.amount > other.amount:
        return one
    if one.amount < other.amount:
        return other
    return Worth(one.amount, min(one.fewest, other.fewest), max(one.most, other.most))


class Walk:
    def __init__(self, row, price):
        self.row = row
        self.price = price
        self.outs = [Worth(0, 0, 0)]
        self.ins = []
        inside = Worth(-price, 1, 1)
        for number in row:
            out = self.outs[-1]
            inside = better_of(inside, out.more(-price, 1)).more(number, 0)
            self.ins.append(inside)
            self.outs.append(better_of(out, inside))

    # It comes to an end within the row, because what is inside a stretch at the first place has begun there.
    def beginning(self, last, stretches):
        first = last
        ahead = self.ins[last].amount - self.row[last]
        while not self.outs[first].allows(ahead + self.price, stretches - 1):
            first = first - 1
            ahead = ahead - self.row[first]
        return first

    def choice(self, stretches):
        chosen = []
        left = stretches
        place = len(self.row)
        while place > 0:
            if self.outs[place - 1].allows(self.outs[place].amount, left):
                place = place - 1
            else:
                first = self.beginning(place - 1, left)
                chosen.append((first, place - first))
                left = left - 1
                place = first
        return list(reversed(chosen))


def several(row, many):
    check_row(row)
    check_many(many)
    price = least_price(row, many)
    walk = Walk(row, price)
    # A price above 0 is counted for each stretch that may be there, so that all of them have to be.
    stretches = many if price > 0 else walk.outs[-1].fewest
    outs = [out.amount for out in walk.outs]
    ins = [inside.amount for inside in walk.ins]
    return Several(walk.choice(stretches), price, outs, ins)
