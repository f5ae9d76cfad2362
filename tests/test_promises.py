"""The promises, over many histories of calls; what's handed in, and how calls are told."""

import random
import unittest

from columnpages.pages import break_cost, find_end, page_before
from columnpages.cutting import breaks_at
from columnpages.press import Calls, Press, answer_or_refusal, answers
from columnpages.reading import read_list
from columnpages.things import penalty_of
from tests.build import ASK, FORCED, LONGEST, NONE, PAGE, anchor, box, class_told, glue, insertion, kern, leaders
from tests.build import left_row, mark, penalty, put, put_row, rule, run, shares, style

DROPPED = (1, 2, 3, 4)


class Maker:
    """Histories, the same each time; boxes bear numbers as their widths, anchors as their names."""

    def __init__(self, seed):
        self.choose = random.Random(seed)
        self.count = 0

    def five(self):
        pick = self.choose
        return [pick.randint(-2, 12), pick.choice([0, 0, 3, 9]), pick.choice([0, 0, 0, 1, 3]),
                pick.choice([0, 0, 2, 5]), pick.choice([0, 0, 0, 1])]

    def solid(self):
        self.count += 1
        height = self.choose.choice([3, 8, 10, 20, 35, -2])
        depth = self.choose.choice([0, 0, 2, 6])
        if self.choose.random() < 0.3:
            return rule(self.count, height, depth)
        return box(height, depth, self.count)

    def other(self):
        kind = self.choose.randint(0, 5)
        if kind == 0:
            self.count += 1
            return anchor(self.count)
        if kind == 1:
            return mark(self.choose.randint(0, 255))
        if kind == 2:
            return kern(self.choose.randint(-3, 12))
        if kind == 3:
            return penalty(self.choose.choice([-10000, -300, 0, 50, 9999, 10000]))
        if kind == 4:
            return leaders(self.five(), rule())
        return [2] + self.five()

    def note(self):
        things = []
        for turn in range(self.choose.randint(0, 4)):
            things.append(self.solid() if self.choose.random() < 0.6 else self.other())
        return insertion(self.choose.randint(1, 3), *things, five=self.five(), depth=self.choose.choice([-1, 0, 3]),
                         cost=self.choose.choice([0, 0, 100, 5000, 10000, -50]))

    def things(self, length):
        made = []
        for turn in range(length):
            draw = self.choose.random()
            if draw < 0.4:
                made.append(self.solid())
            elif draw < 0.85:
                made.append(self.other())
            else:
                made.append(self.note())
        return made

    def told(self):
        calls = [style(self.choose.choice([30, 60, 100]), self.choose.choice([0, 4]), self.five())]
        for number in (1, 2, 3):
            most = self.choose.choice([15, 40, LONGEST])
            calls.append(class_told(number, self.five(), self.choose.choice([0, 500, 1000, 1700]), most, self.choose.randint(0, 1)))
        return calls


def call(press, numbers):
    return answer_or_refusal(press, Calls(numbers))


def stays(thing):
    """Whether a thing can neither be dropped nor have been added on the way."""
    return thing.kind not in DROPPED and thing.kind != 10


def kept_of(things):
    return [thing.numbers for thing in things if stays(thing)]


def notes_of(things):
    """What stands in the insertions of each class, in order."""
    notes = {}
    for thing in things:
        if thing.kind == 10:
            notes.setdefault(thing.numbers[1], []).extend(kept_of(thing.inner))
    return {number: kept for number, kept in notes.items() if kept}


class HistoryTest(unittest.TestCase):
    def test_nothing_is_lost_or_comes_twice(self):
        pages = 0
        for seed in range(300):
            maker = Maker(seed)
            press = Press()
            for told in maker.told():
                self.assertEqual(call(press, told), [0])
            put_things = []
            shown = []
            notes = {}
            for turn in range(4):
                things = maker.things(12)
                self.assertEqual(call(press, put(*things)), [len(things)])
                put_things += read_list([len(things)] + [number for thing in things for number in thing])
                while call(press, ASK)[0] == 1:
                    pages += 1
                    shown += kept_of(press.last_page[0].inner)
                    for number, of_class in press.last_shares.items():
                        notes.setdefault(number, []).extend(kept_of(of_class))
                self.assertEqual(shown + kept_of(press.column), kept_of(put_things))
                waiting = notes_of(press.column)
                for number, kept in notes_of(put_things).items():
                    self.assertEqual(notes.get(number, []) + waiting.get(number, []), kept)
        self.assertGreater(pages, 1000)

    def test_all_comes_when_the_column_is_ended(self):
        for seed in range(100):
            maker = Maker(seed)
            press = Press()
            for told in maker.told():
                call(press, told)
            things = maker.things(30)
            self.assertEqual(call(press, put(*things)), [30])
            notes = {}
            for turn in range(60):
                call(press, put(glue(0, 1, 3), FORCED))
                while call(press, ASK)[0] == 1:
                    for number, of_class in press.last_shares.items():
                        notes.setdefault(number, []).extend(kept_of(of_class))
            self.assertEqual([thing.kind for thing in press.column if thing.kind not in DROPPED + (9, 11)], [])
            all_things = read_list([len(things)] + [number for thing in things for number in thing])
            self.assertEqual({number: kept for number, kept in notes.items() if kept}, notes_of(all_things))

    def test_a_page_is_the_same_whatever_follows(self):
        pages = 0
        for seed in range(300):
            maker = Maker(seed)
            told = maker.told()
            things = maker.things(30)
            for length in range(1, 30):
                first = run(*told, put(*things[:length]), ASK, PAGE)[-2:]
                if first[0][0] == 1:
                    pages += 1
                    for more in (things[length:], [FORCED], [glue(9)], [insertion(1, box(1))], maker.things(3)):
                        self.assertEqual(run(*told, put(*things[:length]), put(*more), ASK, PAGE)[-2:], first)
                    break
        self.assertGreater(pages, 200)

    def test_no_break_before_the_end_costs_less(self):
        looked_at = 0
        for seed in range(300):
            maker = Maker(seed)
            press = Press()
            for told in maker.told():
                call(press, told)
            call(press, put(*maker.things(40)))
            end = find_end(press.column, press.style, press.classes)
            costs = []
            for place in range(end + 1):
                page = page_before(press.column, place, press.style, press.classes)
                if page.begun and breaks_at(press.column, place):
                    costs.append(break_cost(page, penalty_of(press.column[place])))
            if len(costs) > 1:
                looked_at += 1
                self.assertNotIn(None, costs)
                self.assertEqual(costs[-1], min(costs))
        self.assertGreater(looked_at, 50)

    def test_insertions_of_a_class_come_in_order(self):
        notes = [insertion(2, box(30, 0, number), penalty(0), box(30, 0, number + 1)) for number in (1, 3, 5)]
        press = Press()
        call(press, style(40))
        call(press, put(box(5), *notes, FORCED))
        widths = []
        for turn in range(9):
            call(press, put(box(0), FORCED))
            while call(press, ASK)[0] == 1:
                widths += [thing[2] for thing in shares(press).get(2, []) if thing[0] == 6]
        self.assertEqual(widths, [1, 2, 3, 4, 5, 6])


class HandedInTest(unittest.TestCase):
    CALLS = [style(100, 3, [10, 1, 2, 3, 1]), class_told(3, [1, 2, 3, 4, 0], 700, 30), style(1, -1, []),
             put(box(60, 2), mark(7), insertion(3, box(20), penalty(0), box(20)), glue(5), box(60), FORCED),
             left_row([1, 99]), ASK, PAGE, ASK, PAGE, ASK]

    def flat(self):
        return [number for told in self.CALLS for number in told]

    def test_it_stays_as_it_was(self):
        calls = self.flat()
        answers(calls)
        self.assertEqual(calls, self.flat())

    def test_two_runs_answer_the_same(self):
        calls = self.flat()
        first = answers(calls)
        run(style(7), class_told(3, NONE, 1, 1), put(box(1)), ASK)
        self.assertEqual(answers(calls), first)
        first.append(5)
        self.assertEqual(answers(calls), first[:-1])

    def test_nothing_is_kept(self):
        answers(self.flat())
        self.assertEqual(run(PAGE, ASK, put(box(0), FORCED), ASK), [[0], [0], [2], [1, -10000, -1, -1, -1]])

    def test_counts_stand_before_the_answers(self):
        calls = style(10) + put(box(4), FORCED) + ASK + PAGE + put_row([1]) + PAGE[:1]
        row = [1, 6, 1, 0, 10, 0, 0, 0, 1, 0, 2, 2, 0, 0, 0, 0, 0, 6, 0, 0, 4, 0, 0, 0, 1, 0, 0]
        self.assertEqual(answers(calls), [1, 0, 1, 2, 5, 1, -10000, -1, -1, -1, len(row)] + row + [1, -3, len(row)] + row)

    def test_class_s_whole_numbers_stand_before_its_row(self):
        calls = [1, 3, 2000, 50, 0, 5, 4, 0, 0, 0, 0] + style(100) + put(insertion(3, box(10)), FORCED) + ASK + PAGE
        self.assertEqual(answers(calls)[-11:], [1, 6, 1, 0, 76, 0, 0, 0, 1, 0, 0])

    def test_answers_are_whole_numbers_in_a_list(self):
        answered = answers(self.flat())
        self.assertIs(type(answered), list)
        for number in answered:
            self.assertIs(type(number), int)

    def test_40_calls(self):
        self.assertEqual(run(*([put(anchor(1))] * 40)), [[1]] * 40)
