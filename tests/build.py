"""Things and calls as numbers, and runs of calls, for the tests."""

from columnpages.press import Calls, Press, answer_or_refusal, answers

LONGEST = 1073741823
NONE = [0, 0, 0, 0, 0]
FORCED = [4, -10000]
MORE = [0]


def listed(things):
    return [len(things)] + [number for thing in things for number in thing]


def glyph(name=0, width=0, height=0, depth=0):
    return [0, name, width, height, depth]


def kern(size):
    return [1, size]


def glue(size=0, stretch=0, stretch_order=0, shrink=0, shrink_order=0):
    return [2, size, stretch, stretch_order, shrink, shrink_order]


def leaders(five, thing, way=0):
    return [3] + list(five) + [way] + thing


def penalty(number):
    return [4, number]


def rule(width=None, height=None, depth=None):
    row = [5]
    for side in (width, height, depth):
        row += [0] if side is None else [1, side]
    return row


def box(height, depth=0, width=0, shift=0, things=(), column=0, setting=(0, 0, 1)):
    return [6, column, width, height, depth] + list(setting) + [shift] + listed(things)


def disc(before=(), behind=(), unparted=()):
    return [7] + listed(before) + listed(behind) + listed(unparted)


def adjust(*things):
    return [8] + listed(things)


def mark(number):
    return [9, number]


def insertion(number, *things, five=NONE, depth=-1, cost=0):
    return [10, number] + list(five) + [depth, cost] + listed(things)


def anchor(name):
    return [11, name]


def style(height, max_depth=0, top=NONE):
    return [0, height, max_depth, len(top)] + list(top)


def class_told(number, skip=NONE, factor=1000, most=LONGEST, late=0):
    return [1, number, factor, most, late, len(skip)] + list(skip)


def put_row(row):
    return [2, len(row)] + list(row)


def left_row(row):
    return [3, len(row)] + list(row)


def put(*things):
    return put_row(listed(things))


def left(*things):
    return left_row(listed(things))


def things_of(number):
    return [6, number]


def cost_at(place):
    return [11, place]


ASK = [4]
PAGE = [5]
END = [7]
DROP = [8]
COLUMN = [9]
WHERE = [10]

COLUMN_END = [glue(0, 65536, 1), FORCED]


def split(answered):
    rows = []
    place = 0
    while place < len(answered):
        count = answered[place]
        rows.append(answered[place + 1:place + 1 + count])
        assert len(rows[-1]) == count
        place += 1 + count
    return rows


def run(*calls):
    rows = split(answers([number for call in calls for number in call]))
    assert len(rows) == len(calls)
    return rows


def last(*calls):
    return run(*calls)[-1]


def page_row(width, height, depth, setting, *things):
    return [1] + box(height, depth, width, 0, things, 1, setting)


def pressed(*calls):
    """The press after these calls, to look at all that lasts."""
    press = Press()
    for call in calls:
        answer_or_refusal(press, Calls(call))
    return press


def shares(press):
    return {number: [thing.numbers for thing in things] for number, things in press.last_shares.items()}


def column(press):
    return [thing.numbers for thing in press.column]
