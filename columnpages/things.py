"""Things: their kinds, their numbers, and what they count for in a column."""

GLYPH = 0
KERN = 1
GLUE = 2
LEADERS = 3
PENALTY = 4
RULE = 5
BOX = 6
DISC = 7
ADJUST = 8
MARK = 9
INSERTION = 10
ANCHOR = 11

LONGEST = 1073741823
NO_BREAK = 10000
END_STRETCH = 65536
COLUMN_BOX = 1


# A thing never changes: columns, pages and insertions may hold the same one.
class Thing:
    # numbers are all that tell it, its kind first; inner is what an insertion
    # holds or leaders repeat (of other kinds nobody asks what's in them).
    def __init__(self, numbers, inner):
        sides = column_sides(numbers, inner)
        self.kind = numbers[0]
        self.numbers = numbers
        self.inner = inner
        self.width = sides[0]
        self.height = sides[1]
        self.depth = sides[2]


# Width, height and depth as they count in a column; a kern's, glue's and
# leaders' size is their height there.
def column_sides(numbers, inner):
    kind = numbers[0]
    if kind == BOX:
        return (numbers[2] + numbers[8], numbers[3], numbers[4])
    if kind == RULE:
        return rule_sides(numbers)
    if kind == LEADERS:
        return (inner[0].width, numbers[1], 0)
    if kind == KERN or kind == GLUE:
        return (0, numbers[1], 0)
    return (0, 0, 0)


# A running side is told by one number, another one by two.
def rule_sides(numbers):
    sides = []
    place = 1
    while len(sides) < 3:
        if numbers[place] == 1:
            sides.append(numbers[place + 1])
            place += 2
        else:
            sides.append(0)
            place += 1
    return (sides[0], sides[1], sides[2])


def is_solid(thing):
    return thing.kind == BOX or thing.kind == RULE


def is_glue(thing):
    return thing.kind == GLUE or thing.kind == LEADERS


# Kept off the beginning of a page and of what's left of a cut column; glue
# behind such a thing is no break.
def is_dropped(thing):
    return is_glue(thing) or thing.kind == KERN or thing.kind == PENALTY


def glue_numbers(thing):
    return thing.numbers[1:6]


def insertion_class(thing):
    return thing.numbers[1]


def insertion_glue(thing):
    return thing.numbers[2:7]


def insertion_depth(thing):
    return thing.numbers[7]


def insertion_cost(thing):
    return thing.numbers[8]


# The break's penalty: glue and kerns, which have none, count as 0.
def penalty_of(thing):
    if thing.kind == PENALTY:
        return thing.numbers[1]
    return 0


def list_numbers(things):
    numbers = [len(things)]
    for thing in things:
        numbers.extend(thing.numbers)
    return numbers


# The glue above the first box or rule: glue, less what this is high.
def glue_above(glue, solid):
    size = max(0, glue[0] - solid.height)
    return Thing([GLUE, size] + glue[1:], [])


def make_penalty(penalty):
    return Thing([PENALTY, penalty], [])


# What fills a last page and ends it.
def column_end():
    return [Thing([GLUE, 0, END_STRETCH, 1, 0, 0], []), make_penalty(-NO_BREAK)]


# An insertion like the one given, with other things in it.
def insertion_with(insertion, things):
    return Thing(insertion.numbers[:9] + list_numbers(things), things)
