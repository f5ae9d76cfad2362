"""The calls put and left: right and wrong lists, and how much a column holds."""

import unittest

from tests.build import ASK, FORCED, LONGEST, NONE, PAGE, adjust, anchor, box, column, disc, glue, glyph, insertion
from tests.build import kern, last, leaders, left, left_row, listed, mark, page_row, penalty, pressed, put, put_row
from tests.build import rule, run, style

SETTING_END = 2 ** 60
LENGTH = (-LONGEST, LONGEST)
NAME = (0, 65535)
CLASS = (0, 255)
ORDER = (0, 3)
NUMERATOR = (1 - SETTING_END, SETTING_END - 1)
DENOMINATOR = (1, SETTING_END - 1)
GLUE = [LENGTH, LENGTH, ORDER, LENGTH, ORDER]

# Each thing with the ranges of its numbers by their places; None: not to be changed alone.
RANGES = [
    (glyph(1, 2, 3, 4), [NAME, LENGTH, LENGTH, LENGTH]),
    (kern(1), [LENGTH]),
    (glue(1, 2, 0, 3, 0), GLUE),
    (leaders(NONE, rule()), GLUE + [(0, 2), None, None, None, None]),
    (penalty(1), [LENGTH]),
    (rule(1, 2, 3), [None, LENGTH, None, LENGTH, None, LENGTH]),
    (box(1), [(0, 1), LENGTH, LENGTH, LENGTH, ORDER, NUMERATOR, DENOMINATOR, LENGTH, None]),
    (disc(), [None, None, None]),
    (adjust(), [None]),
    (mark(1), [CLASS]),
    (insertion(1), [CLASS] + GLUE + [LENGTH, LENGTH, None]),
    (anchor(1), [NAME]),
]


def changed(row, place, number):
    return row[:place] + [number] + row[place + 1:]


def nested(depth, innermost=()):
    """Adjusts in one another, so deep."""
    thing = adjust(*innermost)
    for turn in range(depth - 1):
        thing = adjust(thing)
    return thing


class ListTest(unittest.TestCase):
    def right(self, row):
        for call in (put_row, left_row):
            self.assertEqual(last(call(row)), [row[0]], row)

    def wrong(self, row):
        for call in (put_row, left_row):
            press = pressed(call(row))
            self.assertEqual(last(call(row)), [-3], row)
            self.assertEqual(press.column, [])

    def test_each_kind(self):
        for thing, ranges in RANGES:
            self.assertEqual(len(thing), 1 + len(ranges))
            self.right(listed([thing]))
            self.right(listed([thing, thing, thing]))

    def test_all_kinds_together_are_kept_as_they_were_told(self):
        things = [thing for thing, ranges in RANGES]
        press = pressed(put(*things))
        self.assertEqual(column(press), things)

    def test_numbers_at_their_ends_and_past_them(self):
        for thing, ranges in RANGES:
            for place, ends in enumerate(ranges, start=1):
                if ends is not None:
                    for number in ends:
                        self.right(listed([changed(thing, place, number)]))
                    for number in (ends[0] - 1, ends[1] + 1, -2 ** 63, 2 ** 63 - 1):
                        self.wrong(listed([changed(thing, place, number)]))

    def test_the_same_deep_within(self):
        for around in (lambda thing: box(0, things=[thing]), adjust, lambda thing: insertion(0, thing)):
            self.right(listed([around(kern(LONGEST))]))
            self.wrong(listed([around(kern(LONGEST + 1))]))

    def test_a_list_too_short(self):
        for thing, ranges in RANGES:
            row = listed([thing])
            for length in range(len(row)):
                if length > 0:
                    self.wrong(row[:length])
            self.wrong(changed(row, 0, 2))

    def test_numbers_left_over(self):
        for thing, ranges in RANGES:
            self.wrong(listed([thing]) + [0])
            self.wrong([0] + thing)
        self.wrong([0, 0])

    def test_a_wrong_kind(self):
        for kind in (-1, 12, 13, 2 ** 63 - 1, -2 ** 63):
            self.wrong([1, kind])
            self.wrong([1, kind, 0])
            self.wrong([1, kind] + [0] * 12)

    def test_no_numbers_at_all(self):
        self.wrong([])

    def test_an_empty_list(self):
        self.assertEqual(run(put_row([0]), left_row([0])), [[0], [0]])

    def test_a_wrong_count(self):
        for count in (-1, -2 ** 63, 2 ** 63 - 1, 2, 6000):
            self.wrong([count])
            self.wrong([count] + kern(1))

    def test_counts_within(self):
        for count in (-1, 2, 2 ** 63 - 1):
            self.wrong([1, 8, count] + kern(1))
            self.wrong([1, 7, 0, count, 0] + kern(1))

    def test_disc_lists(self):
        self.right(listed([disc([kern(1)], [], [])]))
        self.right(listed([disc([], [kern(1)], [])]))
        self.right(listed([disc([kern(1)], [kern(2)], [kern(3), kern(4)])]))
        self.wrong([1, 7, 0, 0])

    def test_rules_run_on_any_side(self):
        for width in (None, 1):
            for height in (None, 2):
                for depth in (None, 3):
                    self.right(listed([rule(width, height, depth), kern(1)]))
        for wrong in ([5, 2, 0, 0], [5, 0, -1, 0], [5, 0, 0, 2], [5, 2, 7, 0, 0], [5, 1, 0, 0]):
            self.wrong([1] + wrong)

    def test_what_leaders_repeat(self):
        for way in (0, 1, 2):
            self.right(listed([leaders([1, 2, 3, 4, 0], rule(1, 2, 3), way)]))
            self.right(listed([leaders(NONE, box(1, things=[glyph(), glue()]), way)]))
        for thing, ranges in RANGES:
            if thing[0] not in (5, 6):
                self.wrong(listed([leaders(NONE, thing)]))

    def test_leaders_within_leaders(self):
        within = leaders(NONE, rule())
        self.wrong(listed([leaders(NONE, within)]))
        around = [lambda thing: thing, adjust, lambda thing: box(0, things=[thing]), lambda thing: insertion(0, thing),
                  lambda thing: disc([thing]), lambda thing: disc([], [thing]), lambda thing: disc([], [], [thing]),
                  lambda thing: box(0, things=[adjust(disc([], [], [insertion(9, thing)]))])]
        for wrap in around:
            self.wrong(listed([leaders(NONE, box(1, things=[wrap(within)]))]))
            self.wrong(listed([leaders(NONE, box(1, things=[kern(1), wrap(within)]))]))
            self.right(listed([leaders(NONE, box(1, things=[wrap(kern(1))]))]))
            self.right(listed([box(1, things=[wrap(within)])]))

    def test_leaders_may_stand_behind_leaders(self):
        within = leaders(NONE, box(1))
        self.right(listed([within, within]))
        self.right(listed([box(1, things=[within, within]), within]))

    def test_depth_8_and_9(self):
        for innermost in ([], [kern(1)], [glyph()]):
            self.right(listed([nested(8, innermost)]))
            self.wrong(listed([nested(9, innermost)]))
            self.wrong(listed([kern(1), nested(9, innermost)]))

    def test_each_deeper_kind_counts_as_one(self):
        wraps = [adjust, lambda thing: box(0, things=[thing]), lambda thing: insertion(0, thing),
                 lambda thing: disc([thing]), lambda thing: disc([], [thing]), lambda thing: disc([], [], [thing])]
        for wrap in wraps:
            self.right(listed([wrap(nested(7))]))
            self.wrong(listed([wrap(nested(8))]))
        self.right(listed([leaders(NONE, box(0, things=[nested(6)]))]))
        self.wrong(listed([leaders(NONE, box(0, things=[nested(7)]))]))
        self.right(listed([nested(7, [leaders(NONE, rule())])]))
        self.wrong(listed([nested(8, [leaders(NONE, rule())])]))

    def test_far_too_deep(self):
        self.wrong([1] + [8, 1] * 2990 + [8, 0])
        self.wrong([1] + [7, 1] * 2900)
        self.wrong([1] + box(0)[:-1] + [1, 8] * 2900)


class PutTest(unittest.TestCase):
    def test_put_comes_behind_and_left_before(self):
        press = pressed(put(kern(1), kern(2)), put(kern(3)), left(kern(4), kern(5)), left(kern(6)))
        self.assertEqual(column(press), [kern(number) for number in (6, 4, 5, 1, 2, 3)])

    def test_the_answer_is_how_many_are_in_the_list(self):
        calls = [put(kern(1), kern(2)), put(adjust(kern(3), kern(4), kern(5))), left(kern(4), kern(5), kern(6)), left()]
        self.assertEqual(run(*calls), [[2], [1], [3], [0]])

    def test_the_pages_show_where_they_came(self):
        rows = run(style(100), put(box(1)), put(box(2), FORCED), left(box(3)), put(box(4)), ASK, PAGE)
        self.assertEqual(rows[6], page_row(0, 100, 0, (0, 0, 1), glue(), box(3), box(1), box(2)))

    def test_what_is_refused_changes_nothing(self):
        press = pressed(put(kern(1)), put_row([1, 1]), left_row([2, 4, 0]), put_row([1, 4, 0, 0]))
        self.assertEqual(column(press), [kern(1)])


def anchors(count):
    return [anchor(0)] * count


class KeptTest(unittest.TestCase):
    """A column's numbers are those of its things and how many things there are."""

    def test_2000_and_2001_in_one_list(self):
        full = anchors(997) + [glyph()]
        self.assertEqual(len(listed(full)), 2000)
        for call in (put, left):
            self.assertEqual(last(call(*full)), [998])
        over = anchors(1000)
        self.assertEqual(len(listed(over)), 2001)
        for call in (put, left):
            self.assertEqual(last(call(*over)), [-6])

    def test_2000_and_2001_in_several(self):
        for first in (put, left):
            for second in (put, left):
                start = first(*anchors(900))
                self.assertEqual(last(start, second(*(anchors(97) + [glyph()]))), [98])
                self.assertEqual(last(start, second(*anchors(100))), [-6])
                self.assertEqual(last(start, second(*anchors(99))), [99])

    def test_deeper_numbers_count(self):
        deep = [adjust(*anchors(998))]
        self.assertEqual(len(listed(deep)), 1999)
        self.assertEqual(last(put(*deep)), [1])
        deep = [adjust(*(anchors(996) + [glyph()]))]
        self.assertEqual(len(listed(deep)), 2000)
        self.assertEqual(last(put(*deep)), [1])
        deep = [adjust(*anchors(999))]
        self.assertEqual(len(listed(deep)), 2001)
        self.assertEqual(last(put(*deep)), [-6])

    def test_what_cannot_be_kept_changes_nothing(self):
        for call in (put, left):
            rows = run(put(*anchors(900)), call(*anchors(100)), call(*anchors(99)), call(anchor(0)), call())
            self.assertEqual(rows, [[900], [-6], [99], [-6], [0]])

    def test_minus_3_before_minus_6(self):
        row = listed(anchors(1000))
        for call in (put_row, left_row):
            self.assertEqual(last(call(row)), [-6])
            self.assertEqual(last(call(row + [0])), [-3])
            self.assertEqual(last(call(changed(row, 2000, 65536))), [-3])
            self.assertEqual(last(put(*anchors(998)), call([1, 11])), [-3])
            self.assertEqual(last(put(*anchors(998)), call(listed([nested(9)]))), [-3])
            self.assertEqual(last(put(*anchors(998)), call(listed([nested(8)]))), [-6])

    def test_what_a_page_took_makes_room(self):
        full = [box(1), FORCED] + anchors(990)
        rows = run(put(*full), put(*anchors(4)), ASK, put(*anchors(4)))
        self.assertEqual(rows, [[992], [-6], [1, -10000, -1, -1, -1], [4]])
