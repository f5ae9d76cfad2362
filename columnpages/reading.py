"""Lists read from their numbers."""

from columnpages.refusals import WrongList
from columnpages.things import GLYPH, KERN, GLUE, LEADERS, PENALTY, RULE, BOX, DISC, ADJUST
from columnpages.things import MARK, INSERTION, ANCHOR, LONGEST, Thing

DEEPEST = 8
HIGHEST_NAME = 65535
HIGHEST_CLASS = 255
HIGHEST_ORDER = 3
# 2 to the 60th, which a setting's numbers stay below.
SETTING_END = 1152921504606846976


def is_length(number):
    return -LONGEST <= number <= LONGEST


def is_order(number):
    return 0 <= number <= HIGHEST_ORDER


def is_class(number):
    return 0 <= number <= HIGHEST_CLASS


# A glue's five numbers: size, stretch, its order, shrink, its order.
def is_glue_row(numbers):
    if len(numbers) != 5:
        return False
    lengths = is_length(numbers[0]) and is_length(numbers[1]) and is_length(numbers[3])
    return lengths and is_order(numbers[2]) and is_order(numbers[4])


class Reader:
    def __init__(self, numbers):
        self.numbers = numbers
        self.place = 0

    def take(self, lowest, highest):
        if self.place >= len(self.numbers):
            raise WrongList("the numbers end too early")
        number = self.numbers[self.place]
        if number < lowest or number > highest:
            raise WrongList("a number is out of its range")
        self.place += 1
        return number

    def take_lengths(self, count):
        for turn in range(count):
            self.take(-LONGEST, LONGEST)

    def take_glue(self):
        if not is_glue_row(self.numbers[self.place:self.place + 5]):
            raise WrongList("these are no glue's numbers")
        self.place += 5


def read_list(numbers):
    reader = Reader(numbers)
    things = read_things(reader, DEEPEST, True)
    if reader.place != len(numbers):
        raise WrongList("numbers are left over")
    return things


# room is how deep the things may be. What's too deep is refused before it's
# gone into, so that calls within one another stay few whatever is handed in.
def read_things(reader, room, leaders_allowed):
    count = reader.take(0, len(reader.numbers))
    things = []
    while len(things) < count:
        things.append(read_thing(reader, room, leaders_allowed))
    return things


def read_thing(reader, room, leaders_allowed):
    start = reader.place
    kind = reader.take(GLYPH, ANCHOR)
    if kind in (LEADERS, BOX, DISC, ADJUST, INSERTION):
        if room == 0:
            raise WrongList("a thing is too deep")
        inner = read_deeper(reader, kind, room - 1, leaders_allowed)
    else:
        inner = []
        read_plain(reader, kind)
    return Thing(reader.numbers[start:reader.place], inner)


def read_plain(reader, kind):
    if kind == GLYPH:
        reader.take(0, HIGHEST_NAME)
        reader.take_lengths(3)
    elif kind == KERN or kind == PENALTY:
        reader.take_lengths(1)
    elif kind == GLUE:
        reader.take_glue()
    elif kind == RULE:
        read_rule(reader)
    elif kind == MARK:
        reader.take(0, HIGHEST_CLASS)
    else:
        reader.take(0, HIGHEST_NAME)


def read_rule(reader):
    for side in range(3):
        if reader.take(0, 1) == 1:
            reader.take_lengths(1)


# Gives back the things that stand in the thing; room is how deep they may be.
def read_deeper(reader, kind, room, leaders_allowed):
    if kind == LEADERS:
        return [read_leaders(reader, room, leaders_allowed)]
    if kind == BOX:
        read_box_sides(reader)
    elif kind == DISC:
        before = read_things(reader, room, leaders_allowed)
        behind = read_things(reader, room, leaders_allowed)
        return before + behind + read_things(reader, room, leaders_allowed)
    elif kind == INSERTION:
        reader.take(0, HIGHEST_CLASS)
        reader.take_glue()
        reader.take_lengths(2)
    return read_things(reader, room, leaders_allowed)


def read_leaders(reader, room, leaders_allowed):
    if not leaders_allowed:
        raise WrongList("leaders stand in what leaders repeat")
    reader.take_glue()
    reader.take(0, 2)
    repeated = read_thing(reader, room, False)
    if repeated.kind != RULE and repeated.kind != BOX:
        raise WrongList("leaders repeat neither a rule nor a box")
    return repeated


def read_box_sides(reader):
    reader.take(0, 1)
    reader.take_lengths(3)
    reader.take(0, HIGHEST_ORDER)
    reader.take(1 - SETTING_END, SETTING_END - 1)
    reader.take(1, SETTING_END - 1)
    reader.take_lengths(1)
