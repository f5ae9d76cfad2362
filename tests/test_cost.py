"""The call cost: what a break at each thing would cost."""

import unittest

from tests.build import ASK, COLUMN, DROP, END, FORCED, LONGEST, NONE, PAGE, WHERE, adjust, anchor, box, class_told
from tests.build import cost_at, disc, glue, glyph, insertion, kern, last, leaders, left, listed, mark, penalty, put
from tests.build import rule, run, style
from tests.test_put_left import nested

# By a stretch of 100 at the top: 50 fit into 100 by 12, 60 by 6, 70 by 2.
TOP = [0, 100, 0, 0, 0]
RULED = leaders(NONE, rule())
NO_BREAK = [0]
BEYOND = [1]
NOT_THERE = [-4]


def costs(*things, told=(), height=100, max_depth=0, top=TOP):
    """What's answered of each thing, with no call after another changing it."""
    calls = [cost_at(place) for place in range(len(things))]
    return run(style(height, max_depth, top), *told, put(*things), *calls)[2 + len(told):]


def cost(*things, told=(), height=100, max_depth=0, top=TOP):
    """The cost of the last thing."""
    return costs(*things, told=told, height=height, max_depth=max_depth, top=top)[-1]


class CostTest(unittest.TestCase):
    def test_of_glue(self):
        self.assertEqual(cost(box(50), glue(9, 8, 0, 7, 0)), [2, 12])
        self.assertEqual(cost(box(60), glue(9, 8, 3, 7, 0)), [2, 6])
        self.assertEqual(cost(box(100), RULED), [2, 0])

    def test_of_a_kern(self):
        self.assertEqual(costs(box(50), kern(20), glue()), [NO_BREAK, [2, 12], NO_BREAK])
        self.assertEqual(costs(box(50), kern(20), RULED), [NO_BREAK, [2, 12], NO_BREAK])

    def test_of_a_penalty(self):
        for number in (-9999, -30, 0, 30, 9999):
            self.assertEqual(cost(box(50), penalty(number)), [2, 12 + number])

    def test_of_a_forced_one(self):
        for number in (-10000, -10001, -LONGEST):
            self.assertEqual(cost(box(50), penalty(number)), [2, number])
            self.assertEqual(cost(box(50), penalty(number), top=NONE), [2, number])

    def test_100000_where_it_fits_worst(self):
        for thing in (glue(), RULED, penalty(-9999), penalty(0), penalty(9999)):
            self.assertEqual(cost(box(50), thing, top=NONE), [2, 100000])
        # 47 by a stretch of 10 is above 10,000, 46 are 9,733.
        self.assertEqual(cost(box(53), penalty(5), top=[0, 10, 0, 0, 0]), [2, 100000])
        self.assertEqual(cost(box(54), penalty(5), top=[0, 10, 0, 0, 0]), [2, 9738])

    def test_by_higher_orders(self):
        for order in (1, 2, 3):
            self.assertEqual(cost(box(50), penalty(7), top=[0, 1, order, 0, 0]), [2, 7])

    def test_shrunk(self):
        for order in range(4):
            shrinking = [0, 0, 0, 10, order]
            self.assertEqual(cost(box(105), penalty(7), top=shrinking), [2, 19])
            self.assertEqual(cost(box(110), penalty(7), top=shrinking), [2, 107])
            self.assertEqual(cost(box(111), penalty(7), top=shrinking), BEYOND)

    def test_what_is_before_it_counts(self):
        self.assertEqual(costs(box(50), glue(10), penalty(1), box(10, 5), glue(5), mark(3), glue(0, 100), glue(), penalty(2)),
                         [NO_BREAK, [2, 12], [2, 7], NO_BREAK, [2, 1], NO_BREAK, [2, 0], NO_BREAK, [2, 2]])

    def test_the_depth(self):
        self.assertEqual(cost(box(50, 10), penalty(0), max_depth=10), [2, 12])
        self.assertEqual(cost(box(50, 10), penalty(0), max_depth=0), [2, 6])
        self.assertEqual(cost(box(50, 10), kern(0), penalty(0), max_depth=10), [2, 6])

    def test_the_break_itself_does_not_count(self):
        self.assertEqual(cost(box(50), glue(500, 900, 3, 0, 0)), [2, 12])
        self.assertEqual(costs(box(50), kern(500), glue())[1], [2, 12])


class InsertionTest(unittest.TestCase):
    def test_the_room_that_they_take(self):
        # 20 into a goal of 70: 12 by 100.
        self.assertEqual(cost(box(20), insertion(3, box(30)), penalty(1)), [2, 13])
        self.assertEqual(cost(box(20), insertion(3, box(30), cost=500), glue()), [2, 12])
        told = [class_told(3, [10, 100, 0, 0, 0], 500)]
        # 10 into 100 - 10 - 20 by 200.
        self.assertEqual(cost(box(10), insertion(3, box(40)), penalty(1), told=told), [2, 3])

    def test_the_extra_cost_of_what_waits(self):
        notes = [insertion(3, box(60), cost=70), insertion(3, box(1), cost=800), insertion(4, box(60), cost=-1000)]
        self.assertEqual(cost(box(50), notes[0], penalty(5)), [2, 87])
        self.assertEqual(cost(box(50), notes[0], glue()), [2, 82])
        self.assertEqual(costs(box(50), notes[0], kern(1), glue())[2], [2, 82])
        self.assertEqual(costs(box(50), glue(), notes[0], penalty(0), notes[1], penalty(0), notes[2], penalty(0)),
                         [NO_BREAK, [2, 12], NO_BREAK, [2, 82], NO_BREAK, [2, 882], NO_BREAK, [2, -118]])

    def test_the_extra_cost_of_what_is_cut(self):
        note = insertion(3, box(20), penalty(40), box(90), cost=500)
        # 50 into 80: 2.
        self.assertEqual(cost(box(50), note, penalty(5)), [2, 47])
        self.assertEqual(cost(box(50), insertion(3, box(20), penalty(-40), box(90)), penalty(5)), [2, -33])
        self.assertEqual(cost(box(50), insertion(3, box(20), glue(), box(90), cost=500), penalty(5)), [2, 7])
        self.assertEqual(cost(box(50), note, insertion(3, box(1), cost=600), glue()), [2, 642])

    def test_what_comes_whole_costs_nothing_more(self):
        told = [class_told(3, NONE, 0, 10)]
        self.assertEqual(cost(insertion(3, box(300), cost=9999), box(50), penalty(1), told=told), [2, 13])

    def test_it_does_not_count_where_it_fits_worst(self):
        self.assertEqual(cost(box(50), insertion(3, box(60), cost=9999), penalty(5), top=NONE), [2, 100000])

    def test_10000_is_beyond(self):
        for number, thing, told in ((9999, penalty(5), [2, 10016]), (10000, penalty(5), BEYOND), (10000, penalty(-9999), BEYOND),
                                    (10000, glue(), BEYOND), (LONGEST, penalty(0), BEYOND)):
            self.assertEqual(cost(box(50), insertion(3, box(60), cost=number), thing), told)
        self.assertEqual(costs(box(50), insertion(3, box(60), cost=10000), kern(1), glue())[2], BEYOND)
        self.assertEqual(cost(box(50), insertion(3, box(60), cost=10000), penalty(5), top=NONE), BEYOND)
        note = insertion(3, box(20), penalty(6000), box(90))
        self.assertEqual(cost(box(50), note, insertion(4, box(90), cost=3999), glue()), [2, 10001])
        self.assertEqual(cost(box(50), note, insertion(4, box(90), cost=4000), glue()), BEYOND)

    def test_a_forced_one_then_still_costs_its_penalty(self):
        for number in (9999, 10000, LONGEST):
            self.assertEqual(cost(box(50), insertion(3, box(60), cost=number), FORCED), [2, -10000])
            self.assertEqual(cost(box(50), insertion(3, box(60), cost=number), penalty(-12345), top=NONE), [2, -12345])
        self.assertEqual(cost(box(101), insertion(3, box(60), cost=10000), FORCED), BEYOND)

    def test_glue_behind_what_waits(self):
        self.assertEqual(cost(box(50), penalty(10000), insertion(3, box(60)), glue()), [2, 12])


class BeyondTest(unittest.TestCase):
    def test_too_full(self):
        for thing in (glue(), RULED, penalty(0), penalty(-9999), FORCED, penalty(-LONGEST)):
            self.assertEqual(cost(box(101), thing), BEYOND)
            self.assertNotEqual(cost(box(100), thing), BEYOND)
        self.assertEqual(costs(box(101), kern(0), glue())[1], BEYOND)

    def test_by_what_insertions_take(self):
        self.assertEqual(cost(box(60), insertion(3, box(40)), box(1), penalty(0)), BEYOND)
        self.assertEqual(cost(insertion(3, box(300)), glue()), BEYOND)


class NoBreakTest(unittest.TestCase):
    def test_other_things(self):
        for thing in (box(1), rule(), mark(1), anchor(1), glyph(), adjust(), disc(), insertion(3, box(1)), insertion(3)):
            self.assertEqual(costs(thing), [NO_BREAK])
            self.assertEqual(costs(box(1), thing), [NO_BREAK, NO_BREAK])

    def test_penalties_from_10000(self):
        for number in (10000, 10001, LONGEST):
            self.assertEqual(cost(box(50), penalty(number)), NO_BREAK)
            self.assertEqual(cost(box(500), penalty(number)), NO_BREAK)

    def test_glue_behind_what_goes_with_it(self):
        for before in (glue(), RULED, kern(1), penalty(10000), penalty(0), FORCED):
            for thing in (glue(), RULED):
                self.assertEqual(cost(box(50), before, thing), NO_BREAK)
                self.assertEqual(cost(box(500), before, thing), NO_BREAK)

    def test_a_kern_before_others(self):
        for behind in (box(1), mark(1), penalty(0), kern(1), insertion(3, box(1))):
            self.assertEqual(costs(box(50), kern(1), behind)[1], NO_BREAK)

    def test_a_kern_at_the_column_s_end(self):
        rows = run(style(100, 0, TOP), put(box(50), kern(1)), cost_at(1), put(glue()), cost_at(1), cost_at(2))
        self.assertEqual([rows[2], rows[4], rows[5]], [NO_BREAK, [2, 12], NO_BREAK])

    def test_before_anything_has_come(self):
        things = [glue(500), mark(1), glue(), kern(1), RULED, penalty(0), FORCED, anchor(2), kern(500), glue()]
        self.assertEqual(costs(*things), [NO_BREAK] * len(things))
        self.assertEqual(costs(*things, box(50), glue()), [NO_BREAK] * 11 + [[2, 12]])
        self.assertEqual(costs(*things, rule(1, 50), FORCED), [NO_BREAK] * 11 + [[2, -10000]])

    def test_behind_an_insertion_breaks_count(self):
        self.assertEqual(costs(glue(), insertion(3, box(1)), glue(3), penalty(4), top=NONE), [NO_BREAK, NO_BREAK, [2, 100000], [2, 100000]])
        self.assertEqual(costs(insertion(3), FORCED), [NO_BREAK, [2, -10000]])


class NotThereTest(unittest.TestCase):
    def test_behind_the_column(self):
        for place in (3, 4, 100, 2 ** 63 - 1):
            self.assertEqual(last(style(100), put(box(50), glue(), penalty(0)), cost_at(place)), NOT_THERE)

    def test_of_an_empty_column(self):
        self.assertEqual(run(cost_at(0), cost_at(2 ** 63 - 1)), [NOT_THERE, NOT_THERE])
        self.assertEqual(last(put(box(1), FORCED), DROP, cost_at(0)), NOT_THERE)

    def test_it_is_there_once_more_has_come(self):
        rows = run(style(100, 0, TOP), put(box(50)), cost_at(1), cost_at(2), END, cost_at(1), cost_at(2), cost_at(3))
        self.assertEqual([rows[2], rows[3], rows[5], rows[6], rows[7]], [NOT_THERE, NOT_THERE, [2, 12], [2, -10000], NOT_THERE])


class BehindTheEndTest(unittest.TestCase):
    def test_behind_a_forced_one(self):
        things = [box(50), FORCED, box(20), glue(), box(31), penalty(7), FORCED]
        self.assertEqual(last(style(100, 0, TOP), put(*things), WHERE), [1])
        self.assertEqual(costs(*things), [NO_BREAK, [2, -10000], NO_BREAK, [2, 2], NO_BREAK, BEYOND, BEYOND])

    def test_behind_one_that_is_beyond(self):
        things = [box(101), glue(), kern(-51), penalty(3), box(10), glue(), box(41), FORCED]
        self.assertEqual(last(style(100, 0, TOP), put(*things), WHERE), [1])
        self.assertEqual(costs(*things), [NO_BREAK, BEYOND, NO_BREAK, [2, 15], NO_BREAK, [2, 6], NO_BREAK, BEYOND])

    def test_insertions_behind_it_count(self):
        things = [box(20), FORCED, insertion(3, box(30)), penalty(1), insertion(3, box(51), cost=60), penalty(1)]
        self.assertEqual(costs(*things), [NO_BREAK, [2, -10000], NO_BREAK, [2, 13], NO_BREAK, [2, 73]])

    def test_on_the_next_page_it_is_another(self):
        things = [box(50), FORCED, box(60), glue(), box(31), penalty(7)]
        rows = run(style(100, 0, TOP), put(*things), cost_at(3), ASK, cost_at(0), cost_at(2), cost_at(4))
        self.assertEqual([rows[2], rows[4], rows[5], rows[6]], [BEYOND, NO_BREAK, [2, 6], [2, 7]])


class ChangesNothingTest(unittest.TestCase):
    def test_it_changes_nothing(self):
        things = [box(50), glue(3), insertion(3, box(20), penalty(9), box(80)), insertion(3, box(1)), box(20), penalty(4), box(60), FORCED]
        calls = [style(100, 0, TOP), put(*things)]
        costs_told = [cost_at(place) for place in range(len(things) + 1)]
        after = [COLUMN, WHERE, PAGE, ASK, COLUMN, PAGE]
        self.assertEqual(run(*calls, *costs_told, *after)[-6:], run(*calls, *after)[-6:])
        self.assertEqual(run(*calls, *costs_told, COLUMN)[-1], listed(things))

    def test_the_style_of_now_holds(self):
        rows = run(style(100, 0, TOP), put(box(50), penalty(1)), cost_at(1), style(60), cost_at(1), style(49), cost_at(1), style(50), cost_at(1))
        self.assertEqual(rows[2::2], [[2, 13], [2, 100000], BEYOND, [2, 1]])

    def test_places_are_counted_from_the_column_s_beginning(self):
        rows = run(style(100, 0, TOP), put(box(50), penalty(1)), left(glue(), mark(1), kern(4)), cost_at(1), cost_at(4))
        self.assertEqual(rows[3:], [NO_BREAK, [2, 13]])

    def test_a_page_that_could_not_be_told(self):
        self.assertEqual(cost(box(50), nested(8), penalty(1)), [2, 13])
