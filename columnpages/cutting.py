"""A column that is cut: its upper part and its rest."""

from columnpages.columns import WORST, Sums, badness
from columnpages.things import KERN, PENALTY, RULE, BOX, INSERTION, NO_BREAK
from columnpages.things import is_glue, is_dropped, penalty_of, glue_above

DEPLORABLE = 100000


class Part:
    def __init__(self, upper_part, penalty, rest):
        self.upper_part = upper_part
        self.penalty = penalty
        self.rest = rest


def is_forced(penalty):
    return penalty <= -NO_BREAK


# Whether a column breaks at this thing, as far as its neighbours tell.
def breaks_at(things, place):
    thing = things[place]
    if is_glue(thing):
        return place > 0 and not is_dropped(things[place - 1])
    if thing.kind == KERN:
        return place + 1 < len(things) and is_glue(things[place + 1])
    return thing.kind == PENALTY and penalty_of(thing) < NO_BREAK


# None, if the first break is too full or either part would have nothing to show
# (the rest never has, if the break is the column's end).
def cut_column(things, height, greatest_depth, glue):
    place = cut_place(things, height, greatest_depth)
    if place < 0:
        return None
    upper = things[:place]
    rest = rest_of(things[place + 1:], glue)
    if len(rest) == 0 or not has_something(upper):
        return None
    return Part(upper, penalty_of(things[place]), rest)


# The break taken, the column's length being its end; -1, if the first is too full.
def cut_place(things, height, greatest_depth):
    sums = Sums()
    best = -1
    least = 0
    for place in range(len(things)):
        if breaks_at(things, place):
            penalty = penalty_of(things[place])
            cost = cut_cost(sums, height, greatest_depth, penalty)
            if cost is None:
                return best
            if best < 0 or cost <= least:
                best = place
                least = cost
            if is_forced(penalty):
                return best
        sums.take_thing(things[place])
    cost = cut_cost(sums, height, greatest_depth, 0)
    if cost is not None and (best < 0 or cost <= least):
        best = len(things)
    return best


def cut_cost(sums, height, greatest_depth, penalty):
    bad = badness(sums.lacks_to(height, greatest_depth), sums.stretches, sums.shrinks)
    if bad is None:
        return None
    if is_forced(penalty):
        return penalty
    if bad == WORST:
        return DEPLORABLE
    return bad + penalty


# The place of the first thing of these kinds; the length, if there's none.
def first_of(things, kinds):
    place = 0
    while place < len(things) and things[place].kind not in kinds:
        place += 1
    return place


# Whether there's a thing with which a page or a rest can begin.
def has_something(things):
    return first_of(things, (BOX, RULE, INSERTION)) < len(things)


# The rest begins with what can be seen; marks and the like before that stay.
def rest_of(behind, glue):
    start = first_of(behind, (BOX, RULE, INSERTION))
    if start == len(behind):
        return []
    rest = [thing for thing in behind[:start] if not is_dropped(thing)] + behind[start:]
    solid = first_of(rest, (BOX, RULE))
    if solid == len(rest):
        return rest
    return rest[:solid] + [glue_above(glue, rest[solid])] + rest[solid:]
