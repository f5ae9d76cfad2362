"""The call column: what's in the column after each of the calls that change it."""

import unittest

from tests.build import ASK, COLUMN, COLUMN_END, DROP, END, FORCED, LONGEST, NONE, PAGE, WHERE, adjust, anchor, box
from tests.build import class_told, cost_at, disc, glue, glyph, insertion, kern, last, leaders, left, left_row, listed
from tests.build import mark, penalty, put, put_row, rule, run, style, things_of
from tests.test_put_left import nested

ALL_KINDS = [glyph(1, 2, 3, 4), kern(-5), glue(1, 2, 3, 4, 1), leaders([1, 2, 0, 3, 0], box(1), 2), penalty(77), rule(1, None, 2),
             box(1, 2, 3, 4, [glyph(9)], 1, (2, 1 - 2 ** 60, 2 ** 60 - 1)), disc([kern(1)], [], [glyph(), mark(0)]), adjust(mark(1)),
             mark(255), insertion(9, box(1), kern(LONGEST), five=[1, 2, 3, 4, 0], depth=-5, cost=6), anchor(65535), nested(8)]


class ColumnTest(unittest.TestCase):
    def test_empty(self):
        self.assertEqual(run(COLUMN, put(), COLUMN, left(), COLUMN), [[0]] * 5)

    def test_all_kinds_as_they_were_told(self):
        self.assertEqual(last(put(*ALL_KINDS), COLUMN), listed(ALL_KINDS))
        self.assertEqual(last(left(*ALL_KINDS), COLUMN), listed(ALL_KINDS))

    def test_after_put_and_left(self):
        rows = run(put(kern(1), kern(2)), COLUMN, left(kern(3), kern(4)), COLUMN, put(kern(5)), left(kern(6)), COLUMN)
        self.assertEqual(rows[1], [2, 1, 1, 1, 2])
        self.assertEqual(rows[3], [4, 1, 3, 1, 4, 1, 1, 1, 2])
        self.assertEqual(rows[6], [6, 1, 6, 1, 3, 1, 4, 1, 1, 1, 2, 1, 5])

    def test_after_end_and_drop(self):
        rows = run(put(box(1)), END, COLUMN, DROP, COLUMN, END, COLUMN)
        self.assertEqual([rows[2], rows[4], rows[6]], [listed([box(1)] + COLUMN_END), [0], [0]])

    def test_it_holds_up_to_2000_numbers(self):
        full = [glyph()] + [anchor(0)] * 997
        row = last(put(*full), COLUMN)
        self.assertEqual(row, listed(full))
        self.assertEqual(len(row), 2000)

    def test_what_is_refused_leaves_it(self):
        refused = [put_row([1, 1]), left_row([1, 12]), put(nested(9)), put(*[anchor(0)] * 990), left(*[anchor(0)] * 990),
                   style(1, -1), class_told(256), things_of(3), WHERE, cost_at(99)]
        rows = run(put(*ALL_KINDS), *refused, COLUMN)
        self.assertEqual(rows[1:-1], [[-3], [-3], [-3], [-6], [-6], [-1], [-1], [-4], [-4], [-4]])
        self.assertEqual(rows[-1], listed(ALL_KINDS))

    def test_what_only_tells_leaves_it(self):
        rows = run(style(9), put(*ALL_KINDS), ASK, PAGE, COLUMN, cost_at(2), cost_at(4), class_told(3), style(8), COLUMN)
        self.assertEqual([rows[4], rows[9]], [listed(ALL_KINDS)] * 2)


class AskedTest(unittest.TestCase):
    """What an ask leaves: what waits, the break, the rest."""

    def left(self, *things, told=()):
        rows = run(style(100), *told, put(*things), ASK, COLUMN)
        self.assertEqual(rows[-2][0], 1)
        return rows[-1]

    def test_more_wanted_leaves_all(self):
        things = [glue(3), mark(4), box(10), glue(5), box(10), kern(3)]
        self.assertEqual(run(style(100), put(*things), ASK, COLUMN)[2:], [[0], listed(things)])

    def test_a_refused_one_leaves_all(self):
        things = [glue(3), box(1), nested(8), FORCED, box(2)]
        self.assertEqual(run(style(100), put(*things), ASK, COLUMN)[2:], [[-6], listed(things)])

    def test_the_glue_at_the_break(self):
        behind = [glue(7, 1, 2, 3, 0), box(60), FORCED]
        self.assertEqual(self.left(box(60), *behind), listed(behind))
        behind = [leaders([7, 1, 2, 3, 0], rule(1)), box(60), FORCED]
        self.assertEqual(self.left(box(60), *behind), listed(behind))

    def test_the_kern_at_the_break(self):
        behind = [kern(7), glue(3), box(60), FORCED]
        self.assertEqual(self.left(box(60), *behind), listed(behind))

    def test_a_penalty_at_the_break_becomes_10000(self):
        for number in (-LONGEST, -10000, -9999, 0, 50, 9999):
            self.assertEqual(self.left(box(60), penalty(number), box(60), penalty(3)), listed([penalty(10000), box(60), penalty(3)]))

    def test_nothing_else_is_left_behind_the_last_thing(self):
        self.assertEqual(self.left(box(60), FORCED), [1, 4, 10000])

    def test_what_was_dropped_is_gone(self):
        self.assertEqual(self.left(glue(3), kern(2), penalty(0), box(60), FORCED, glue(1)), listed([penalty(10000), glue(1)]))

    def test_what_waits_comes_first_and_in_order(self):
        notes = [insertion(number, box(60, 0, number)) for number in (3, 9, 3, 4)]
        things = [box(50), notes[0], mark(1), notes[1], box(10), notes[2], notes[3]]
        self.assertEqual(self.left(*things, FORCED, box(1), FORCED), listed(notes + [penalty(10000), box(1), FORCED]))
        self.assertEqual(self.left(*things, glue(2), box(60), FORCED), listed(notes + [glue(2), box(60), FORCED]))
        self.assertEqual(self.left(*things, kern(2), glue(), box(60), FORCED), listed(notes + [kern(2), glue(), box(60), FORCED]))

    def test_the_rest_of_what_was_cut_stands_among_what_waits(self):
        five = [33, 2, 1, 4, 0]
        cut = insertion(3, box(20), penalty(0), kern(9), mark(2), box(30), glue(8), five=five, depth=7, cost=40)
        rest = insertion(3, mark(2), glue(3, 2, 1, 4, 0), box(30), glue(8), five=five, depth=7, cost=40)
        before = insertion(5, box(90))
        behind = insertion(3, box(1))
        self.assertEqual(self.left(box(60), before, cut, behind, FORCED, box(1)), listed([before, rest, behind, penalty(10000), box(1)]))

    def test_insertions_behind_the_break_stay_where_they_were(self):
        notes = [insertion(3, box(60, 0, number)) for number in (0, 1)]
        self.assertEqual(self.left(box(50), notes[0], penalty(5), notes[1], box(60), FORCED),
                         listed([notes[0], penalty(10000), notes[1], box(60), FORCED]))

    def test_page_after_page(self):
        things = [box(60), glue(1), box(60), kern(2), glue(3), box(60), penalty(4), box(60)]
        rows = run(style(100), put(*things), ASK, COLUMN, ASK, COLUMN, ASK, COLUMN, END, ASK, COLUMN)
        self.assertEqual([rows[3], rows[5]], [listed(things[1:]), listed(things[3:])])
        # Nothing behind the last box tells yet that it's too full.
        self.assertEqual(rows[6:8], [[0], listed(things[3:])])
        self.assertEqual(rows[10], listed([penalty(10000), box(60)] + COLUMN_END))


class PutAnewTest(unittest.TestCase):
    def put_anew(self, *calls):
        row = last(*calls, COLUMN)
        for call in (put_row, left_row):
            self.assertEqual(run(call(row), COLUMN), [[row[0]], row])
            self.assertEqual(run(*calls, DROP, call(row), COLUMN)[-2:], [[row[0]], row])

    def test_after_each_call(self):
        self.put_anew(put())
        self.put_anew(put(*ALL_KINDS))
        self.put_anew(put(*ALL_KINDS), left(*ALL_KINDS), END)
        self.put_anew(put(*ALL_KINDS), DROP)

    def test_after_an_ask_that_cuts_and_lets_wait(self):
        cut = insertion(3, box(20), penalty(0), box(30), nested(7), five=[LONGEST, 1, 2, 3, 0])
        self.put_anew(style(100), put(box(60), cut, insertion(4, box(90)), FORCED, box(1)), ASK)

    def test_where_the_rest_is_at_the_end_of_the_lengths_and_past_it(self):
        for size, height in ((LONGEST - 5, -5), (LONGEST - 4, -5), (LONGEST, -1), (LONGEST, -LONGEST)):
            cut = insertion(3, box(10), penalty(0), box(height), box(LONGEST), box(50), five=[size, 0, 0, 0, 0])
            self.put_anew(style(100), class_told(3, NONE, 0, 10), put(box(9), cut, FORCED), ASK)
