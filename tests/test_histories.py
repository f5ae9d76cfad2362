"""The promises over histories of all twelve calls in any order, and over the pages of a long column."""

import unittest

from columnpages.press import Press, answers
from columnpages.reading import read_list
from tests.build import ASK, COLUMN, DROP, END, FORCED, LONGEST, NONE, PAGE, WHERE, box, class_told, cost_at, glue
from tests.build import insertion, kern, last, left, left_row, listed, mark, page_row, penalty, put, put_row, run, split
from tests.build import style, things_of
from tests.test_promises import Maker, call, kept_of, notes_of

CLASSES = (1, 2, 3)
INFINITE = float("inf")


def copy_of(press):
    """Another press with all that lasts of this one, to try a call on."""
    other = Press()
    for name, value in vars(press).items():
        setattr(other, name, dict(value) if isinstance(value, dict) else value)
    return other


def state(press):
    """All that lasts from one call to the next, in numbers."""
    told = press.style
    classes = {number: (kind.skip, kind.factor, kind.most, kind.late) for number, kind in press.classes.items()}
    return ((told.height, told.max_depth, told.top), classes, listed_things(press.column), press.last_mark,
            listed_things(press.last_page), {number: listed_things(things) for number, things in press.last_shares.items()})


def listed_things(things):
    return listed([thing.numbers for thing in things])


def cost_of(press, place):
    """None, if there's no break; beyond is above all others."""
    row = call(press, cost_at(place))
    if row == [0]:
        return None
    return INFINITE if row == [1] else row[1]


def pages_of(press):
    """All pages that can be asked now: what's answered, the page, the things of its classes."""
    pages = []
    asked = call(press, ASK)
    while asked[0] == 1:
        pages.append((asked, call(press, PAGE), [call(press, things_of(number)) for number in asked[5:]]))
        asked = call(press, ASK)
    return pages


class AnyMaker(Maker):
    """Calls of all twelve numbers, right and wrong ones."""

    def any_call(self):
        pick = self.choose
        kind = pick.choice([0, 1, 2, 2, 2, 2, 2, 3, 4, 4, 4, 4, 4, 5, 6, 7, 8, 9, 10, 11, 11, 12])
        if kind < 2:
            return self.told()[kind]
        if kind == 2:
            return put(*self.things(pick.randint(0, 14)))
        if kind == 3:
            return left(*self.things(pick.randint(0, 4)))
        if kind == 6:
            return things_of(pick.choice([1, 2, 3, 4, 256]))
        if kind == 11:
            return cost_at(pick.randint(0, 20))
        if kind == 12:
            return self.wrong_call()
        return [kind]

    def wrong_call(self):
        return self.choose.choice([style(1, -1), class_told(256), put_row([1, 12]), left_row([2, 4, 0]), things_of(2 ** 63 - 1),
                                   cost_at(2 ** 63 - 1), put(*[penalty(0)] * 1000), left(*[penalty(0)] * 1000)])


class Told:
    """What must still come, in order: what stays of the column itself, and of each class's insertions."""

    def __init__(self):
        self.kept = []
        self.notes = {}

    def put(self, things, before):
        notes = notes_of(things)
        for number in CLASSES:
            old = self.notes.get(number, [])
            new = notes.get(number, [])
            self.notes[number] = new + old if before else old + new
        self.kept = kept_of(things) + self.kept if before else self.kept + kept_of(things)

    def hand_over(self, test, press):
        shown = kept_of(press.last_page[0].inner)
        test.assertEqual(shown, self.kept[:len(shown)])
        self.kept = self.kept[len(shown):]
        for number, things in press.last_shares.items():
            shown = kept_of(things)
            test.assertEqual(shown, self.notes[number][:len(shown)])
            self.notes[number] = self.notes[number][len(shown):]


class AnyOrderTest(unittest.TestCase):
    def histories(self, count, length):
        for seed in range(count):
            maker = AnyMaker(seed)
            press = Press()
            for told in maker.told():
                call(press, told)
            for turn in range(length):
                yield press, maker.any_call()

    def test_nothing_is_lost_or_comes_twice(self):
        pages = 0
        for seed in range(200):
            maker = AnyMaker(seed)
            press = Press()
            told = Told()
            for numbers in maker.told() + [maker.any_call() for turn in range(40)]:
                row = call(press, numbers)
                if numbers[0] in (2, 3) and row[0] >= 0:
                    told.put(read_list(numbers[2:]), numbers[0] == 3)
                elif numbers == DROP:
                    told = Told()
                elif numbers == ASK and row[0] == 1:
                    pages += 1
                    told.hand_over(self, press)
                column = read_list(call(press, COLUMN))
                self.assertEqual(kept_of(column), told.kept)
                self.assertEqual(notes_of(column), {number: kept for number, kept in told.notes.items() if kept})
        self.assertGreater(pages, 500)

    def test_what_is_refused_or_only_tells_changes_nothing(self):
        refused = {}
        for press, numbers in self.histories(200, 40):
            before = state(press)
            row = call(press, numbers)
            if row[0] < 0 or numbers[0] in (5, 6, 9, 10, 11) or (numbers in (ASK, END) and row == [0]):
                self.assertEqual(state(press), before)
            if row[0] < 0:
                self.assertEqual(len(row), 1)
                refused[row[0]] = refused.get(row[0], 0) + 1
        self.assertEqual(sorted(refused), [-6, -4, -3, -1])

    def test_ask_ends_the_page_where_it_was_told(self):
        ended = 0
        for press, numbers in self.histories(200, 40):
            if numbers == ASK:
                column = press.column
                place = call(press, WHERE)[0]
                row = call(press, ASK)
                self.assertEqual(place == -4, row == [0])
                if row[0] == 1:
                    ended += 1
                    at = column[place].numbers
                    self.assertEqual(row[1], at[1] if at[0] == 4 else 10000)
                    again = penalty(10000) if at[0] == 4 else at
                    left_over = [again] + [thing.numbers for thing in column[place + 1:]]
                    self.assertEqual([thing.numbers for thing in press.column[-len(left_over):]], left_over)
                    waiting = press.column[:-len(left_over)]
                    self.assertEqual([thing.kind for thing in waiting], [10] * len(waiting))
            else:
                call(press, numbers)
        self.assertGreater(ended, 500)

    def test_no_break_before_the_end_costs_less(self):
        looked_at = 0
        for press, numbers in self.histories(100, 40):
            end = call(press, WHERE)[0] if numbers == ASK else -4
            if end >= 0:
                costs = [cost_of(press, place) for place in range(end + 1)]
                self.assertIsNotNone(costs[end])
                before = [cost for cost in costs if cost is not None]
                self.assertEqual(min(before), costs[end])
                looked_at += len(before) > 1
            call(press, numbers)
        self.assertGreater(looked_at, 30)

    def test_a_page_is_the_same_with_more_behind_the_column(self):
        pages = 0
        more = [FORCED, glue(9), box(1), insertion(1, box(1)), kern(3), mark(8)]
        for press, numbers in self.histories(100, 40):
            if numbers == ASK and call(press, WHERE)[0] >= 0:
                for thing in more:
                    first = copy_of(press)
                    second = copy_of(press)
                    self.assertEqual(call(second, put(thing)), [1])
                    self.assertEqual(call(second, ASK), call(first, ASK))
                    self.assertEqual(state(second)[3:], state(first)[3:])
                    self.assertEqual([part.numbers for part in second.column], [part.numbers for part in first.column] + [thing])
                pages += 1
            call(press, numbers)
        self.assertGreater(pages, 200)

    def test_the_column_put_anew_is_the_same_column(self):
        for press, numbers in self.histories(60, 40):
            call(press, numbers)
            row = call(press, COLUMN)
            other = Press()
            self.assertEqual(call(other, put_row(row)), [row[0]])
            self.assertEqual(call(other, COLUMN), row)
            self.assertEqual([thing.inner == [] for thing in other.column], [thing.inner == [] for thing in press.column])
            other = copy_of(press)
            call(other, DROP)
            call(other, left_row(row))
            self.assertEqual(pages_of(other), pages_of(copy_of(press)))

    def test_what_is_handed_in_stays_and_two_runs_answer_the_same(self):
        for seed in range(100):
            maker = AnyMaker(seed)
            calls = [number for told in maker.told() + [maker.any_call() for turn in range(36)] for number in told]
            handed_in = list(calls)
            first = answers(handed_in)
            self.assertEqual(handed_in, calls)
            self.assertEqual(answers(handed_in), first)
            self.assertEqual(len(split(first)), 40)
            self.assertEqual({type(number) for number in first}, {int})


def note(number, first, count):
    """A note of boxes that bear numbers as their widths, to be cut between them."""
    things = []
    for width in range(first, first + count):
        things += [box(8, 0, width), penalty(20)]
    return insertion(number, *things[:-1], cost=100)


def long_column():
    """Thirty lines; every other one has a note of one of three classes."""
    things = []
    for line in range(30):
        things += [box(12, 3, 1000 + line), mark(line)]
        if line % 2 == 1:
            things.append(note(1 + line // 2 % 3, 10 * line, 1 + line % 5))
        things.append(glue(4, 3, 0, 1, 0))
    return things


class LongColumnTest(unittest.TestCase):
    TOLD = [style(120, 3, [10, 0, 0, 0, 0]), class_told(1, [6, 2, 0, 0, 0]), class_told(2, [6, 0, 0, 2, 0], 500, 20),
            class_told(3, NONE, 1000, LONGEST, 1)]

    def pressed(self, things):
        press = Press()
        for told in self.TOLD:
            call(press, told)
        call(press, put(*things))
        return press

    def book(self):
        press = self.pressed(long_column())
        pages = pages_of(press)
        while call(press, END) == [1]:
            pages += pages_of(press)
        return pages, press

    def boxes(self, row):
        return [thing.numbers[2] for thing in read_list(row) if thing.kind == 6]

    def lines(self, page):
        return [thing.numbers[2] for thing in read_list(page)[0].inner if thing.kind == 6]

    def marks(self, page):
        return [thing.numbers[1] for thing in read_list(page)[0].inner if thing.kind == 9]

    def notes_of_class(self, pages, number):
        """Of each page that has some of the class the widths of its boxes."""
        return [self.boxes(things[row[5:].index(number)]) for row, page, things in pages if number in row[5:]]

    def test_all_lines_come_once_and_in_order(self):
        pages, press = self.book()
        self.assertGreater(len(pages), 5)
        self.assertEqual([line for row, page, things in pages for line in self.lines(page)], list(range(1000, 1030)))
        self.assertEqual([line for row, page, things in pages for line in self.marks(page)], list(range(30)))
        self.assertEqual([thing.kind for thing in press.column], [4])

    def test_all_notes_come_once_and_in_order(self):
        pages, press = self.book()
        for number in CLASSES:
            told = [thing for thing in read_list(listed(long_column())) if thing.kind == 10 and thing.numbers[1] == number]
            widths = [part.numbers[2] for thing in told for part in thing.inner if part.kind == 6]
            came = self.notes_of_class(pages, number)
            self.assertGreater(len(came), 1)
            self.assertEqual([width for boxes in came for width in boxes], widths)

    def test_the_marks_go_on_from_page_to_page(self):
        pages, press = self.book()
        top = -1
        for row, page, things in pages:
            on_it = self.marks(page)
            self.assertEqual(row[2:5], [top, on_it[0], on_it[-1]] if on_it else [top] * 3)
            top = row[4]

    def test_each_page_is_the_same_if_the_column_comes_in_pieces(self):
        whole = self.book()[0]
        for size in (1, 3, 10, 40):
            press = self.pressed([])
            pages = []
            things = long_column()
            for start in range(0, len(things), size):
                call(press, put(*things[start:start + size]))
                pages += pages_of(press)
            self.assertEqual(pages, whole[:len(pages)])
            while call(press, END) == [1]:
                pages += pages_of(press)
            self.assertEqual(pages, whole)

    def test_once_it_is_sure_where_the_page_ends_it_stays_there(self):
        things = long_column()
        ends = [last(*self.TOLD, put(*things[:length]), WHERE) for length in range(len(things))]
        sure = [end for end in ends if end != [-4]]
        self.assertEqual(ends, [[-4]] * (len(ends) - len(sure)) + [sure[0]] * len(sure))

    def test_no_break_costs_less(self):
        press = self.pressed(long_column())
        pages = 0
        end = call(press, WHERE)[0]
        while end >= 0:
            costs = [cost_of(press, place) for place in range(len(press.column))]
            stop = costs.index(INFINITE)
            # Up to the first that's beyond none costs less, and none behind the end as little.
            self.assertEqual(min([cost for cost in costs[:stop + 1] if cost is not None]), costs[end])
            self.assertNotIn(costs[end], costs[end + 1:stop + 1])
            call(press, ASK)
            pages += 1
            end = call(press, WHERE)[0]
        self.assertGreater(pages, 3)

    def test_a_cut_note_s_rest_is_the_first_of_its_class(self):
        press = self.pressed(long_column())
        cut = 0
        told = {number: [] for number in CLASSES}
        for thing in press.column:
            if thing.kind == 10:
                told[thing.numbers[1]].append([part.numbers[2] for part in thing.inner if part.kind == 6])
        while call(press, ASK)[0] == 1:
            for number in CLASSES:
                row = call(press, things_of(number))
                came = [] if row == [-4] else self.boxes(row)
                while came:
                    first = told[number].pop(0)
                    self.assertEqual(came[:len(first)], first[:len(came)])
                    if len(came) < len(first):
                        told[number].insert(0, first[len(came):])
                        cut += 1
                    came = came[len(first):]
                behind = [[part.numbers[2] for part in thing.inner if part.kind == 6] for thing in press.column
                          if thing.kind == 10 and thing.numbers[1] == number]
                self.assertEqual(behind, told[number])
        self.assertGreater(cut, 1)

    def test_pages_worked_out_by_hand(self):
        """Two classes over four pages: one is cut, one waits."""
        notes = insertion(1, box(20, 0, 1), penalty(7), box(20, 0, 2), five=[25, 0, 0, 0, 0])
        picture = insertion(2, box(70, 0, 3), cost=30)
        things = [box(40), picture, box(30), notes, glue(10), box(20), FORCED, box(5), glue(0, 1), box(6)]
        rows = run(style(100), put(*things), WHERE, cost_at(4), cost_at(6), ASK, things_of(1), things_of(2), COLUMN,
                   WHERE, ASK, END, WHERE, ASK, PAGE, things_of(1), things_of(2), COLUMN, END, ASK, PAGE, COLUMN)
        # 70 and a note of 20 leave 10 for the goal of 80, and nothing stretches; with 100 it's too full.
        self.assertEqual(rows[2:6], [[4], [2, 100000], [1], [1, 10000, -1, -1, -1, 1]])
        self.assertEqual(rows[6:8], [listed([box(20, 0, 1)]), [-4]])
        rest = insertion(1, glue(5), box(20, 0, 2), five=[25, 0, 0, 0, 0])
        self.assertEqual(rows[8], listed([picture, rest] + things[4:]))
        # The picture and the rest take 95, the glue 10: the first break, at the glue, just fits, the next doesn't.
        self.assertEqual(rows[9:11], [[2], [1, 10000, -1, -1, -1, 1, 2]])
        self.assertEqual(rows[11:13], [[1], [2]])
        self.assertEqual(rows[13:15], [[1, -10000, -1, -1, -1], page_row(0, 100, 0, (0, 0, 1), glue(), box(20))])
        self.assertEqual(rows[15:17], [[-4], [-4]])
        self.assertEqual(rows[17], listed([penalty(10000), box(5), glue(0, 1), box(6), glue(0, 65536, 1), FORCED]))
        self.assertEqual(rows[19], [1, -10000, -1, -1, -1])
        self.assertEqual(rows[20], page_row(0, 100, 0, (1, 89, 65536), glue(), box(5), glue(0, 1), box(6), glue(0, 65536, 1)))
        self.assertEqual(rows[21], listed([penalty(10000), glue(0, 65536, 1), FORCED]))
