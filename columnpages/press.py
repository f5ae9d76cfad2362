"""The calls on one column, read one after another and answered."""

from columnpages.columns import packed
from columnpages.cutting import has_something
from columnpages.pages import MORE_WANTED, break_cost, end_penalty, find_end, is_break, left_behind, page_before
from columnpages.pages import page_marks
from columnpages.reading import is_class, is_glue_row, is_length, read_list
from columnpages.refusals import NotKept, NotThere, WrongList, WrongStyle
from columnpages.styles import ClassStyle, Style, first_style
from columnpages.things import column_end, list_numbers, penalty_of

MOST_KEPT = 2000
HIGHEST_FACTOR = 1000000
NO_MARK = -1


# All that lasts from one call to the next.
class Press:
    def __init__(self):
        self.style = first_style()
        self.classes = {}
        self.column = []
        self.last_mark = NO_MARK
        self.last_page = []
        self.last_shares = {}


# The calls' numbers, and how far they have been read.
class Calls:
    def __init__(self, numbers):
        self.numbers = numbers
        self.place = 0

    def take_number(self):
        number = self.numbers[self.place]
        self.place += 1
        return number

    def take_row(self):
        count = self.take_number()
        row = self.numbers[self.place:self.place + count]
        self.place += count
        return row


class NoSuchCall(ValueError):
    pass


def answers(calls):
    press = Press()
    told = Calls(calls)
    answered = []
    while told.place < len(calls):
        answer = answer_or_refusal(press, told)
        answered.append(len(answer))
        answered.extend(answer)
    return answered


def answer_or_refusal(press, told):
    try:
        return answer_call(press, told, told.take_number())
    except WrongStyle:
        return [-1]
    except WrongList:
        return [-3]
    except NotThere:
        return [-4]
    except NotKept:
        return [-6]


def answer_call(press, told, number):
    if number == 0:
        return tell_style(press, told)
    if number == 1:
        return tell_class(press, told)
    if number == 2:
        return put(press, told)
    if number == 3:
        return left(press, told)
    if number == 4:
        return ask(press)
    if number == 5:
        return list_numbers(press.last_page)
    if number == 6:
        return tell_things(press, told)
    if number == 7:
        return put_end(press)
    if number == 8:
        return drop_column(press)
    if number == 9:
        return list_numbers(press.column)
    if number == 10:
        return tell_where(press)
    if number == 11:
        return tell_cost(press, told)
    raise NoSuchCall(f"there is no call {number}")


def tell_style(press, told):
    height = told.take_number()
    max_depth = told.take_number()
    top = told.take_row()
    if not is_length(height) or not is_length(max_depth) or max_depth < 0 or not is_glue_row(top):
        raise WrongStyle("no right style")
    press.style = Style(height, max_depth, top)
    return [0]


def tell_class(press, told):
    number = told.take_number()
    factor = told.take_number()
    most = told.take_number()
    late = told.take_number()
    skip = told.take_row()
    if not is_class(number) or not 0 <= factor <= HIGHEST_FACTOR or not is_length(most):
        raise WrongStyle("no right class")
    if late not in (0, 1) or not is_glue_row(skip):
        raise WrongStyle("no right class")
    press.classes[number] = ClassStyle(skip, factor, most, late == 1)
    return [0]


def put(press, told):
    things = read_list(told.take_row())
    press.column = kept(press.column + things)
    return [len(things)]


def left(press, told):
    things = read_list(told.take_row())
    press.column = kept(things + press.column)
    return [len(things)]


# What a cut leaves was worked out, so a column is looked at as a whole: what's
# kept can always be told.
def kept(column):
    if len(list_numbers(column)) > MOST_KEPT:
        raise NotKept("the column has too many numbers")
    check_told(column)
    return column


def ask(press):
    end = find_end(press.column, press.style, press.classes)
    if end == MORE_WANTED:
        return [0]
    page = page_before(press.column, end, press.style, press.classes)
    box = packed(page.things, page.goal, press.style.max_depth)
    shares = shares_with_things(page)
    check_told([box])
    for number in shares:
        check_told(shares[number])
    column = kept(left_behind(page, press.column, end))
    marks = page_marks(page, press.last_mark)
    answer = [1, end_penalty(press.column[end])] + marks + list(shares)
    press.last_mark = marks[2]
    press.last_page = [box]
    press.last_shares = shares
    press.column = column
    return answer


# The things of each class that has some on the page, the classes rising.
def shares_with_things(page):
    shares = {}
    for number in sorted(page.shares):
        things = page.shares[number].things
        if len(things) > 0:
            shares[number] = things
    return shares


# What was worked out may be past the ends that hold for what's put.
def check_told(things):
    try:
        read_list(list_numbers(things))
    except WrongList:
        raise NotKept("a thing can't be told")


def tell_things(press, told):
    number = told.take_number()
    if number not in press.last_shares:
        raise NotThere("nothing of this class is on the last page")
    return list_numbers(press.last_shares[number])


def put_end(press):
    if not has_something(press.column):
        return [0]
    press.column = kept(press.column + column_end())
    return [1]


def drop_column(press):
    count = len(press.column)
    press.column = []
    return [count]


def tell_where(press):
    end = find_end(press.column, press.style, press.classes)
    if end == MORE_WANTED:
        raise NotThere("more of the column is wanted")
    return [end]


# Nothing is asked of the breaks before it: the page may have ended there.
def tell_cost(press, told):
    place = told.take_number()
    if place >= len(press.column):
        raise NotThere("the column isn't so long")
    page = page_before(press.column, place, press.style, press.classes)
    if not is_break(page, press.column, place):
        return [0]
    cost = break_cost(page, penalty_of(press.column[place]))
    if cost is None:
        return [1]
    return [2, cost]
