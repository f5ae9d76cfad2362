"""Columns: how large they are, how badly they fit a height, and how they are packed to it."""

from columnpages.things import KERN, BOX, COLUMN_BOX, Thing, is_glue, is_solid, glue_numbers, list_numbers

WORST = 10000
ORDERS_FROM_HIGHEST = (3, 2, 1, 0)


# What's measured of a column, thing by thing from its beginning.
class Sums:
    def __init__(self):
        self.total = 0
        self.widest = 0
        self.last_depth = 0
        self.stretches = [0, 0, 0, 0]
        self.shrinks = [0, 0, 0, 0]

    def take_thing(self, thing):
        self.total += thing.height + thing.depth
        self.widest = max(self.widest, thing.width)
        if is_solid(thing):
            self.last_depth = thing.depth
        elif thing.kind == KERN:
            self.last_depth = 0
        elif is_glue(thing):
            self.last_depth = 0
            self.take_elastic(glue_numbers(thing))

    def take_elastic(self, glue):
        self.stretches[glue[2]] += glue[1]
        self.shrinks[glue[4]] += glue[3]

    # A greatest depth below 0 means that any is right.
    def depth_within(self, greatest):
        if greatest < 0:
            return self.last_depth
        return min(self.last_depth, greatest)

    def lacks_to(self, height, greatest_depth):
        return height - (self.total - self.depth_within(greatest_depth))


def sums_of(things):
    sums = Sums()
    for thing in things:
        sums.take_thing(thing)
    return sums


# The highest order that has something to give; -1, if there's none.
def giving_order(by_orders):
    for order in ORDERS_FROM_HIGHEST:
        if by_orders[order] > 0:
            return order
    return -1


# How badly a column fits that is to have lack more than by itself; None, if
# it's too full.
def badness(lack, stretches, shrinks):
    if lack >= 0:
        return stretched_badness(lack, stretches)
    order = giving_order(shrinks)
    if order > 0:
        return 0
    if order < 0 or -lack > shrinks[0]:
        return None
    return 100 * (-lack) ** 3 // shrinks[0] ** 3


def stretched_badness(lack, stretches):
    order = giving_order(stretches)
    if lack == 0 or order > 0:
        return 0
    if order < 0:
        return WORST
    return min(WORST, 100 * lack ** 3 // stretches[0] ** 3)


# The setting: order, numerator, denominator.
def setting_for(lack, stretches, shrinks):
    by_orders = stretches if lack > 0 else shrinks
    order = giving_order(by_orders)
    if lack == 0 or order < 0:
        return [0, 0, 1]
    most = by_orders[order]
    if order == 0 and -lack > most:
        return [0, -most, most]
    return [order, lack, most]


def packed(things, height, greatest_depth):
    sums = sums_of(things)
    setting = setting_for(sums.lacks_to(height, greatest_depth), sums.stretches, sums.shrinks)
    sides = [sums.widest, height, sums.depth_within(greatest_depth)]
    return Thing([BOX, COLUMN_BOX] + sides + setting + [0] + list_numbers(things), things)
