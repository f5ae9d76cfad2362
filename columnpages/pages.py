"""A page that is made from the column's beginning, and where it ends."""

from columnpages.columns import WORST, badness
from columnpages.cutting import DEPLORABLE, breaks_at, is_forced
from columnpages.insertions import take_insertion
from columnpages.things import INSERTION, KERN, MARK, PENALTY, NO_BREAK, is_glue, is_solid, is_dropped
from columnpages.things import glue_numbers, glue_above, make_penalty, penalty_of

MORE_WANTED = -1


class Page:
    def __init__(self, style, classes):
        self.style = style
        self.classes = classes
        self.goal = style.height
        self.total = 0
        self.depth = 0
        self.stretches = [0, 0, 0, 0]
        self.shrink = 0
        self.things = []
        self.begun = False
        self.has_solid = False
        self.shares = {}
        self.extra = 0
        self.waiting = []

    # A page's shrink is held as if it were of order 0, whatever its order.
    def take_elastic(self, glue):
        self.stretches[glue[2]] += glue[1]
        self.shrink += glue[3]

    def shows_something(self):
        return self.has_solid or any([len(share.things) > 0 for share in self.shares.values()])


def take_thing(page, thing):
    if is_dropped(thing) and not page.begun:
        return
    if thing.kind == INSERTION:
        take_insertion(page, thing)
        page.begun = True
    elif is_solid(thing):
        take_solid(page, thing)
        page.begun = True
    else:
        take_other(page, thing)


def take_other(page, thing):
    if thing.kind == KERN:
        take_size(page, thing)
    elif is_glue(thing):
        take_size(page, thing)
        page.take_elastic(glue_numbers(thing))
    page.things.append(thing)


def take_size(page, thing):
    page.total += page.depth + thing.height
    page.depth = 0


def take_solid(page, thing):
    if not page.has_solid:
        take_other(page, glue_above(page.style.top, thing))
        page.has_solid = True
    page.total += page.depth + thing.height
    page.depth = min(thing.depth, page.style.max_depth)
    page.total += thing.depth - page.depth
    page.things.append(thing)


# The page as it is when it has come to the thing at this place.
def page_before(column, place, style, classes):
    page = Page(style, classes)
    for thing in column[:place]:
        take_thing(page, thing)
    return page


# None, if the break is beyond.
def break_cost(page, penalty):
    bad = badness(page.goal - page.total, page.stretches, [page.shrink, 0, 0, 0])
    if bad is None:
        return None
    if is_forced(penalty):
        return penalty
    if page.extra >= NO_BREAK:
        return None
    if bad == WORST:
        return DEPLORABLE
    return bad + penalty + page.extra


# Whether the page that has come to this place may end there. A kern at the
# column's end hangs on what comes: as yet it's no break.
def is_break(page, column, place):
    return page.begun and breaks_at(column, place)


# The place of the break at which the page ends.
def find_end(column, style, classes):
    page = Page(style, classes)
    best = MORE_WANTED
    least = 0
    for place in range(len(column)):
        if is_break(page, column, place):
            penalty = penalty_of(column[place])
            cost = break_cost(page, penalty)
            if cost is None:
                return place if best == MORE_WANTED else best
            if best == MORE_WANTED or cost <= least:
                best = place
                least = cost
            if is_forced(penalty):
                return best
        take_thing(page, column[place])
    return MORE_WANTED


def left_behind(page, column, end):
    thing = column[end]
    if thing.kind == PENALTY:
        thing = make_penalty(NO_BREAK)
    return page.waiting + [thing] + column[end + 1:]


# Glue and kerns answer as a penalty that forbids a break.
def end_penalty(thing):
    if thing.kind == PENALTY:
        return penalty_of(thing)
    return NO_BREAK


# Top, first and last mark, top being the last one of the page before.
def page_marks(page, top):
    marks = [thing.numbers[1] for thing in page.things if thing.kind == MARK]
    if len(marks) == 0:
        return [top, top, top]
    return [top, marks[0], marks[-1]]
