"""An insertion that comes to a page: it goes on it, is cut, or waits."""

from columnpages.columns import sums_of
from columnpages.cutting import cut_column
from columnpages.styles import class_style
from columnpages.things import insertion_class, insertion_glue, insertion_depth, insertion_cost, insertion_with

THOUSAND = 1000


# What a page has of one class.
class Share:
    def __init__(self):
        self.things = []
        self.height = 0
        self.closed = False


def take_insertion(page, insertion):
    number = insertion_class(insertion)
    style = class_style(page.classes, number)
    share = page.shares.setdefault(number, Share())
    if fits_whole(page, style, share, insertion):
        put_on(page, style, share, insertion.inner)
    elif not put_part_on(page, style, share, insertion):
        put_on_or_wait(page, style, share, insertion)


# The goal that's left for a class: its skip counts once something of it comes.
def goal_for(page, style, share):
    if len(share.things) == 0:
        return page.goal - style.skip[0]
    return page.goal


def fits_whole(page, style, share, insertion):
    height = sums_of(insertion.inner).total
    if share.closed or share.height + height > style.most:
        return False
    needed = page.total + page.depth + height * style.factor // THOUSAND
    return needed <= goal_for(page, style, share)


def put_on(page, style, share, things):
    page.goal = goal_for(page, style, share)
    if len(share.things) == 0:
        page.take_elastic(style.skip)
    height = sums_of(things).total
    page.goal -= height * style.factor // THOUSAND
    share.height += height
    share.things = share.things + things


def room_for(page, style, share):
    room = style.most - share.height
    if style.factor == 0:
        return room
    free = goal_for(page, style, share) - page.total - page.depth
    return min(room, free * THOUSAND // style.factor)


# Answers whether the insertion could be cut.
def put_part_on(page, style, share, insertion):
    if share.closed or style.late:
        return False
    room = room_for(page, style, share)
    if room <= 0:
        return False
    part = cut_column(insertion.inner, room, insertion_depth(insertion), insertion_glue(insertion))
    if part is None:
        return False
    put_on(page, style, share, part.upper_part)
    page.extra += part.penalty
    page.waiting.append(insertion_with(insertion, part.rest))
    share.closed = True
    return True


# On an empty page it can't wait: it would wait on each page that comes.
def put_on_or_wait(page, style, share, insertion):
    if share.closed or page.shows_something():
        page.waiting.append(insertion)
        page.extra += insertion_cost(insertion)
    else:
        put_on(page, style, share, insertion.inner)
    share.closed = True
