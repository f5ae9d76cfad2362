"""The call ask without insertions: where a page ends, what's handed over, what's left, refusals."""

import unittest

from columnpages.pages import break_cost, page_before
from columnpages.styles import Style
from tests.build import ASK, FORCED, LONGEST, MORE, NONE, PAGE, adjust, anchor, box, class_told, column, disc, glue
from tests.build import glyph, insertion, kern, last, leaders, left, mark, page_row, penalty, pressed, put, rule, run
from tests.build import shares, style
from tests.test_put_left import nested

NO_MARKS = [-1, -1, -1]
AT_GLUE = [1, 10000] + NO_MARKS
AT_FORCED = [1, -10000] + NO_MARKS
RULED = leaders(NONE, rule())


def ended(number):
    return [1, number] + NO_MARKS


def asked(*things, height=100, max_depth=0, top=NONE):
    return last(style(height, max_depth, top), put(*things), ASK)


class MoreWantedTest(unittest.TestCase):
    def test_nothing_in_the_column(self):
        self.assertEqual(run(ASK, ASK), [MORE, MORE])

    def test_no_break(self):
        self.assertEqual(asked(box(10), box(300), box(10)), MORE)

    def test_breaks_that_fit(self):
        self.assertEqual(asked(box(10), glue(5), box(10), penalty(-9999), box(75), penalty(0)), MORE)

    def test_only_what_is_dropped(self):
        self.assertEqual(asked(glue(500), kern(500), glue(), FORCED, penalty(0), RULED, mark(1), glue(500), FORCED), MORE)

    def test_a_kern_at_the_end(self):
        self.assertEqual(asked(box(101), kern(0)), MORE)
        self.assertEqual(asked(box(101), kern(0), glue()), AT_GLUE)
        self.assertEqual(asked(box(101), kern(0), RULED), AT_GLUE)
        self.assertEqual(asked(box(101), kern(0), box(1)), MORE)

    def test_it_changes_nothing(self):
        things = [glue(3), mark(4), box(10), glue(5), box(10), kern(3)]
        press = pressed(style(100), put(*things), ASK, ASK)
        self.assertEqual(column(press), things)

    def test_a_later_put_ends_the_page(self):
        rows = run(style(100), put(box(60), kern(2)), ASK, put(glue(), box(60)), ASK, put(glue()), ASK, PAGE)
        self.assertEqual([rows[2], rows[4], rows[6]], [MORE, MORE, AT_GLUE])
        self.assertEqual(rows[7], page_row(0, 100, 0, (0, 0, 1), glue(), box(60)))


class EndTest(unittest.TestCase):
    def test_at_glue(self):
        calls = [style(100), put(box(40), glue(20), box(40), glue(20), box(40), glue(20)), ASK, PAGE]
        rows = run(*calls)
        self.assertEqual(rows[2], AT_GLUE)
        self.assertEqual(rows[3], page_row(0, 100, 0, (0, 0, 1), glue(), box(40), glue(20), box(40)))
        self.assertEqual(column(pressed(*calls)), [glue(20), box(40), glue(20)])

    def test_at_leaders(self):
        spaced = leaders([20, 1, 2, 3, 1], rule(1, 2, 3))
        calls = [style(100), put(box(40), spaced, box(80), spaced), ASK, PAGE]
        rows = run(*calls)
        self.assertEqual(rows[2], AT_GLUE)
        self.assertEqual(rows[3], page_row(0, 100, 0, (0, 0, 1), glue(), box(40)))
        self.assertEqual(column(pressed(*calls)), [spaced, box(80), spaced])

    def test_at_a_kern(self):
        calls = [style(100), put(box(60), kern(5), glue(5), box(60), FORCED), ASK, PAGE]
        rows = run(*calls)
        self.assertEqual(rows[2], AT_GLUE)
        self.assertEqual(rows[3], page_row(0, 100, 0, (0, 0, 1), glue(), box(60)))
        self.assertEqual(column(pressed(*calls)), [kern(5), glue(5), box(60), FORCED])

    def test_at_a_penalty(self):
        calls = [style(100), put(box(50), penalty(50), box(60), FORCED), ASK, PAGE]
        rows = run(*calls)
        self.assertEqual(rows[2], ended(50))
        self.assertEqual(rows[3], page_row(0, 100, 0, (0, 0, 1), glue(), box(50)))
        self.assertEqual(column(pressed(*calls)), [penalty(10000), box(60), FORCED])

    def test_at_a_forced_penalty(self):
        for number in (-10000, -10001, -LONGEST):
            calls = [style(100), put(box(50), penalty(number), box(60)), ASK, PAGE]
            rows = run(*calls)
            self.assertEqual(rows[2], ended(number))
            self.assertEqual(rows[3], page_row(0, 100, 0, (0, 0, 1), glue(), box(50)))
            self.assertEqual(column(pressed(*calls)), [penalty(10000), box(60)])

    def test_too_full_at_the_first_break(self):
        for end, number in ((glue(1), 10000), (penalty(3), 3), (FORCED, -10000)):
            calls = [style(100), put(box(50), penalty(10000), box(60), end, box(1)), ASK, PAGE]
            rows = run(*calls)
            self.assertEqual(rows[2], ended(number))
            self.assertEqual(rows[3], page_row(0, 100, 0, (0, 0, 1), glue(), box(50), penalty(10000), box(60)))
        calls = [style(100), put(box(101), kern(1), glue(1)), ASK]
        self.assertEqual(run(*calls)[2], AT_GLUE)
        self.assertEqual(column(pressed(*calls)), [kern(1), glue(1)])

    def test_a_forced_one_that_is_too_full_ends_at_the_best(self):
        self.assertEqual(asked(box(50), penalty(70), box(60), FORCED), ended(70))

    def test_behind_the_page_end_nothing_counts(self):
        first = [box(60), glue(5), box(60), glue()]
        shown = last(style(100), put(*first), ASK, PAGE)
        for more in ([box(4)], [FORCED], [kern(-100), box(1), FORCED], [insertion(1, box(9))], [mark(3)]):
            self.assertEqual(last(style(100), put(*first), put(*more), ASK, PAGE), shown)


class CostTest(unittest.TestCase):
    # By a stretch of 100 at the top: 50 fit into 100 by 12, 60 by 6.
    TOP = [0, 100, 0, 0, 0]

    def end(self, *things):
        return asked(*things, top=self.TOP)

    def test_the_least(self):
        self.assertEqual(self.end(box(50), penalty(0), box(10), penalty(7), box(100), penalty(1)), ended(0))
        self.assertEqual(self.end(box(50), penalty(0), box(10), penalty(5), box(100), penalty(1)), ended(5))

    def test_of_several_the_last(self):
        self.assertEqual(self.end(box(50), penalty(0), box(10), penalty(6), box(100), penalty(1)), ended(6))

    def test_glue_and_kerns_count_as_0(self):
        self.assertEqual(self.end(box(50), penalty(-7), box(10), glue(), box(100), penalty(1)), ended(-7))
        self.assertEqual(self.end(box(50), penalty(-6), box(10), glue(), box(100), penalty(1)), AT_GLUE)
        self.assertEqual(self.end(box(50), penalty(-7), box(10), kern(0), glue(), box(100), penalty(1)), ended(-7))
        self.assertEqual(self.end(box(50), penalty(-6), box(10), kern(0), glue(), box(100), penalty(1)), AT_GLUE)

    def test_100000_where_it_fits_worst(self):
        # Without stretch a penalty doesn't count: the last is taken.
        self.assertEqual(asked(box(50), penalty(-9999), box(1), penalty(9999), box(100), penalty(1)), ended(9999))
        # 12 and 9,999 are less than 100,000.
        self.assertEqual(asked(box(50), penalty(-9999), glue(0, 100), penalty(9999), box(100), penalty(1)), ended(9999))
        # Worst and all that's at least as bad: 47 by a stretch of 10.
        self.assertEqual(asked(box(53), penalty(1), box(1), penalty(2), box(90), penalty(3), top=[0, 10, 0, 0, 0]), ended(2))

    def test_just_below_the_worst(self):
        # 46 by a stretch of 10 is 9,733: with a penalty of 9,999 that's below 100,000.
        top = [0, 10, 0, 0, 0]
        self.assertEqual(asked(box(54), penalty(9999), box(46), penalty(9999), box(1), penalty(3), top=top), ended(9999))
        self.assertEqual(asked(box(53), penalty(-9999), box(1), penalty(9999), box(99), penalty(3), top=top), ended(9999))

    def test_forced_ones_cost_their_penalty_alone(self):
        self.assertEqual(asked(box(100), penalty(-9999), mark(3), FORCED)[:2], [1, -10000])
        self.assertEqual(asked(box(100), penalty(-9999), kern(-90), FORCED)[:2], [1, -10000])

    def test_just_not_forced(self):
        self.assertEqual(asked(box(100), penalty(-9999)), MORE)

    def test_no_break_at_10000(self):
        self.assertEqual(asked(box(100), penalty(10000), box(1), penalty(9999)), ended(9999))
        self.assertEqual(asked(box(100), penalty(9998), box(1), penalty(9999)), ended(9998))

    def test_just_full_and_too_full(self):
        self.assertEqual(asked(box(100), penalty(1), penalty(2)), MORE)
        self.assertEqual(asked(box(101), penalty(1), penalty(2)), ended(1))

    def test_shrink(self):
        shrinking = glue(0, 0, 0, 10, 0)
        self.assertEqual(asked(box(60), shrinking, box(50), penalty(1), penalty(2)), MORE)
        self.assertEqual(asked(box(60), shrinking, box(51), penalty(1), penalty(2)), AT_GLUE)
        # 105 into 100 by 10: 12; at 100: 0.
        self.assertEqual(asked(box(60), shrinking, box(40), penalty(11), box(5), penalty(0), box(9), penalty(0)), ended(11))
        self.assertEqual(asked(box(60), shrinking, box(40), penalty(12), box(5), penalty(0), box(9), penalty(0)), ended(0))

    def test_shrink_below_0_is_none(self):
        self.assertEqual(asked(box(60), glue(0, 0, 0, -10, 0), box(41), penalty(1)), AT_GLUE)

    def test_stretch_of_higher_orders(self):
        for order in (1, 2, 3):
            five = [0, 1, order, 0, 0]
            self.assertEqual(asked(box(1), penalty(0), box(99), penalty(1), box(1), penalty(2), top=five), ended(0))
            self.assertEqual(asked(box(1), penalty(1), box(99), penalty(0), box(1), penalty(2), top=five), ended(0))
        self.assertEqual(asked(box(1), penalty(0), box(99), penalty(1), box(1), penalty(2), top=[0, 1, 0, 0, 0]), ended(1))


    def test_costs_one_by_one(self):
        def cost(height, number, extra=0, top=NONE):
            page = page_before(pressed(put(box(50))).column, 1, Style(height, 0, top), {})
            page.extra = extra
            return break_cost(page, number)
        self.assertIsNone(cost(49, 0))
        self.assertIsNone(cost(49, -10000))
        self.assertEqual(cost(100, -10000, 10000), -10000)
        self.assertEqual(cost(100, -20000, 5), -20000)
        self.assertIsNone(cost(100, 0, 10000))
        self.assertIsNone(cost(50, -9999, 10000))
        self.assertEqual(cost(100, 7, 9999), 100000)
        self.assertEqual(cost(50, 7, 9999), 10006)
        self.assertEqual(cost(50, 7, -20), -13)
        self.assertEqual(cost(100, 7, 30, self.TOP), 49)


class PointTest(unittest.TestCase):
    def shown(self, *things, height=100, max_depth=0, top=NONE):
        """The things of the page."""
        return last(style(height, max_depth, top), put(*things), ASK, PAGE)[10:]

    def listed(self, *things):
        return [len(things)] + [number for thing in things for number in thing]

    def test_1_what_is_dropped(self):
        dropped = [glue(500), kern(500), penalty(-10000), penalty(0), RULED, kern(500), glue(500)]
        self.assertEqual(self.shown(*dropped, box(1), FORCED), self.listed(glue(), box(1)))
        self.assertEqual(self.shown(*dropped, rule(), FORCED), self.listed(glue(), rule()))

    def test_1_what_is_not_dropped_among_it(self):
        stays = [mark(1), anchor(2), glyph(3, 400, 500, 600), adjust(box(700)), disc([box(800)])]
        things = [glue(500), stays[0], kern(1), stays[1], FORCED, stays[2], stays[3], RULED, stays[4], glue(9)]
        self.assertEqual(self.shown(*things, box(1), FORCED), self.listed(*stays, glue(), box(1)))

    def test_1_others_change_no_number(self):
        others = [mark(1), anchor(2), glyph(3, 400, 500, 600), adjust(box(700)), disc([box(800)])]
        self.assertEqual(asked(box(50), *others, box(50), penalty(1), penalty(2)), MORE)
        row = last(style(100), put(box(50), *others, box(51), penalty(1)), ASK, PAGE)
        self.assertEqual(row, page_row(0, 100, 0, (0, 0, 1), glue(), box(50), *others, box(51)))

    def test_1_others_leave_the_depth(self):
        self.assertEqual(asked(box(50, 5), mark(1), box(45), penalty(1), penalty(2), max_depth=9), MORE)
        self.assertEqual(asked(box(50, 5), mark(1), box(46), penalty(1), penalty(2), max_depth=9)[:2], [1, 1])

    def test_2_the_glue_at_the_top(self):
        top = [30, 1, 2, 3, 1]
        for thing, size in ((box(12), 18), (box(30), 0), (box(31), 0), (box(-5), 35), (rule(), 30), (rule(1, 12), 18)):
            self.assertEqual(self.shown(thing, box(2), FORCED, top=top), self.listed(glue(size, 1, 2, 3, 1), thing, box(2)))
        self.assertEqual(self.shown(box(-5), FORCED, top=[-9, 0, 0, 0, 0]), self.listed(glue(), box(-5)))

    def test_2_the_glue_at_the_top_is_no_break(self):
        self.assertEqual(asked(mark(1), box(20), top=[200, 0, 0, 0, 0]), MORE)
        self.assertEqual(asked(box(20), penalty(7), top=[200, 0, 0, 0, 0]), ended(7))

    def test_2_the_glue_at_the_top_counts(self):
        top = [30, 0, 0, 0, 0]
        self.assertEqual(asked(box(20), box(70), penalty(1), penalty(2), top=top), MORE)
        self.assertEqual(asked(box(20), box(71), penalty(1), penalty(2), top=top), ended(1))
        shrinking = [30, 0, 0, 5, 3]
        self.assertEqual(asked(box(20), box(75), penalty(1), penalty(2), top=shrinking), MORE)
        self.assertEqual(asked(box(20), box(76), penalty(1), penalty(2), top=shrinking), ended(1))

    def test_2_height_and_depth(self):
        self.assertEqual(asked(box(50, 20), box(30), penalty(1), penalty(2), max_depth=20), MORE)
        self.assertEqual(asked(box(50, 20), box(31), penalty(1), penalty(2), max_depth=20), ended(1))
        # The last one's depth hangs below, as far as it may.
        self.assertEqual(asked(box(100, 20), penalty(1), penalty(2), max_depth=20), MORE)
        self.assertEqual(asked(box(100, 21), penalty(1), penalty(2), max_depth=20), ended(1))
        self.assertEqual(asked(box(99, 21), penalty(1), penalty(2), max_depth=20), MORE)
        self.assertEqual(asked(rule(0, 99, 21), penalty(1), penalty(2), max_depth=20), MORE)
        self.assertEqual(asked(rule(0, 100, 21), penalty(1), penalty(2), max_depth=20), ended(1))

    def test_2_what_is_above_the_greatest_depth_counts_once(self):
        self.assertEqual(asked(box(50, 20), box(30), penalty(1), penalty(2), max_depth=5), MORE)
        self.assertEqual(asked(box(50, 20), box(31), penalty(1), penalty(2), max_depth=5), ended(1))

    def test_2_a_depth_below_0(self):
        self.assertEqual(asked(box(50, -5), box(55), penalty(1), penalty(2)), MORE)
        self.assertEqual(asked(box(50, -5), box(56), penalty(1), penalty(2)), ended(1))

    def test_3_no_break_behind_glue_kern_penalty(self):
        for thing in (kern(51), glue(51), leaders([51, 0, 0, 0, 0], rule())):
            # A break at the glue behind it would be beyond.
            self.assertEqual(asked(box(50), penalty(10000), thing, glue(), glue()), MORE)
            self.assertEqual(asked(box(50), penalty(10000), thing, RULED, glue()), MORE)
        self.assertEqual(asked(box(101), penalty(10000), glue()), MORE)
        self.assertEqual(asked(box(101), penalty(10000), RULED), MORE)

    def test_3_a_break_behind_all_others(self):
        for thing in (mark(1), anchor(1), glyph(), adjust(), disc(), rule()):
            self.assertEqual(asked(box(101), penalty(10000), thing, glue())[:2], [1, 10000])
            self.assertEqual(asked(box(101), penalty(10000), glue(), thing, RULED)[:2], [1, 10000])

    def test_3_glue_counts_behind_its_break(self):
        self.assertEqual(asked(box(100), glue(50)), MORE)
        self.assertEqual(asked(box(60), glue(40), penalty(1), penalty(2)), MORE)
        self.assertEqual(asked(box(60), glue(41), penalty(1), penalty(2)), AT_GLUE)
        self.assertEqual(asked(box(60), leaders([40, 0, 0, 0, 0], rule()), penalty(1), penalty(2)), MORE)
        self.assertEqual(asked(box(60), leaders([41, 0, 0, 0, 0], rule()), penalty(1), penalty(2)), AT_GLUE)

    def test_3_glue_takes_the_depth(self):
        for space in (glue(0), kern(0), RULED):
            self.assertEqual(asked(box(50, 5), box(45, 5), penalty(10000), space, penalty(2), penalty(3), max_depth=9), ended(2))
            self.assertEqual(asked(box(50, 5), box(40, 5), penalty(10000), space, penalty(2), penalty(3), max_depth=9), MORE)
            self.assertEqual(asked(box(50, 5), penalty(10000), space, box(45), penalty(2), penalty(3), max_depth=9), MORE)
            self.assertEqual(asked(box(50, 5), penalty(10000), space, box(46), penalty(2), penalty(3), max_depth=9), ended(2))

    def test_3_shrink_of_higher_orders_counts_as_of_order_0(self):
        for order in (0, 1, 2, 3):
            for make in (glue, lambda *five: leaders(five, rule())):
                shrinking = make(0, 0, 0, 10, order)
                self.assertEqual(asked(box(60), shrinking, box(50), penalty(1), penalty(2)), MORE)
                self.assertEqual(asked(box(60), shrinking, box(51), penalty(1), penalty(2)), AT_GLUE)

    def test_3_leaders_stretch(self):
        stretching = leaders([0, 1, 1, 0, 0], rule())
        self.assertEqual(asked(box(1), penalty(9), stretching, penalty(7), box(99), penalty(8), box(1), glue()), ended(7))

    def test_4_a_kern_that_is_no_break(self):
        for behind in (box(1), mark(1), penalty(10000), kern(1), anchor(1)):
            self.assertEqual(asked(box(101), kern(0), behind), MORE)

    def test_4_a_kern_behind_anything(self):
        for before in (kern(0), penalty(10000)):
            self.assertEqual(asked(box(101), before, kern(0), glue()), AT_GLUE)

    def test_4_a_kern_counts_behind_its_break(self):
        self.assertEqual(asked(box(100), kern(50), glue()), MORE)
        self.assertEqual(asked(box(60), kern(40), penalty(1), penalty(2)), MORE)
        self.assertEqual(asked(box(60), kern(41), penalty(1), penalty(2)), ended(1))

    def test_5_penalties_stay_on_the_page(self):
        things = [box(50), penalty(0), penalty(10000), box(50), penalty(-1), penalty(-2)]
        self.assertEqual(self.shown(*things, FORCED), self.listed(glue(), *things))

    def test_5_penalties_change_no_number(self):
        self.assertEqual(asked(box(50, 5), penalty(20), box(45), penalty(1), penalty(2), max_depth=9), MORE)


class LeftTest(unittest.TestCase):
    def test_pages_one_after_another(self):
        things = []
        for number in range(6):
            things += [box(40, 0, number), glue(10), penalty(10000)]
        rows = run(style(100), put(*things), ASK, PAGE, ASK, PAGE, ASK, put(FORCED), ASK, PAGE, ASK)
        for asking in (2, 4):
            self.assertEqual(rows[asking], AT_GLUE)
        self.assertEqual(rows[3], page_row(1, 100, 0, (0, 0, 1), glue(), box(40), glue(10), penalty(10000), box(40, 0, 1)))
        self.assertEqual(rows[5], page_row(3, 100, 0, (0, 0, 1), glue(), box(40, 0, 2), glue(10), penalty(10000), box(40, 0, 3)))
        self.assertEqual(rows[6], MORE)
        self.assertEqual(rows[8], AT_FORCED)
        self.assertEqual(rows[9], page_row(5, 100, 0, (0, 0, 1), glue(), box(40, 0, 4), glue(10), penalty(10000), box(40, 0, 5),
                                           glue(10), penalty(10000)))
        self.assertEqual(rows[10], MORE)

    def test_what_was_gone_through_behind_the_best_break_comes_again(self):
        rows = run(style(100), put(box(60), glue(3), mark(5), box(60), FORCED), ASK, ASK, PAGE)
        self.assertEqual(rows[2:4], [AT_GLUE, [1, -10000, -1, 5, 5]])
        self.assertEqual(rows[4], page_row(0, 100, 0, (0, 0, 1), mark(5), glue(), box(60)))

    def test_a_penalty_that_ended_a_page_is_no_break_again(self):
        rows = run(style(100), put(box(50), FORCED), ASK, left(box(1)), ASK, put(box(1), FORCED), ASK, PAGE)
        self.assertEqual([rows[2], rows[4], rows[6]], [AT_FORCED, MORE, AT_FORCED])
        self.assertEqual(rows[7], page_row(0, 100, 0, (0, 0, 1), glue(), box(1), penalty(10000), box(1)))

    def test_what_is_put_comes_behind_and_left_before_what_is_left(self):
        press = pressed(style(100), put(box(50), FORCED, kern(1)), ASK, put(kern(2)), left(kern(3)))
        self.assertEqual(column(press), [kern(3), penalty(10000), kern(1), kern(2)])


class MarksTest(unittest.TestCase):
    def marks(self, *things):
        return asked(*things)[2:5]

    def test_over_several_pages(self):
        calls = [style(100)]
        for marks in ([], [mark(5), mark(6), mark(7)], [], [], [mark(0)], [mark(255), mark(3)], []):
            calls += [put(box(1), *marks, FORCED), ASK]
        told = [row[2:5] for row in run(*calls)[2::2]]
        self.assertEqual(told, [NO_MARKS, [-1, 5, 7], [7, 7, 7], [7, 7, 7], [7, 0, 0], [0, 255, 3], [3, 3, 3]])

    def test_before_the_first_box(self):
        self.assertEqual(self.marks(glue(), mark(4), kern(2), box(1), FORCED), [-1, 4, 4])

    def test_behind_the_break_they_are_the_next_page_s(self):
        rows = run(style(100), put(mark(1), box(60), glue(), mark(2), box(60), FORCED), ASK, ASK)
        self.assertEqual([row[2:] for row in rows[2:]], [[-1, 1, 1], [1, 2, 2]])

    def test_only_those_that_stand_in_the_column_itself(self):
        within = [box(1, things=[mark(1)]), adjust(mark(2)), insertion(3, mark(3), box(1)), disc([mark(4)])]
        self.assertEqual(self.marks(*within, FORCED), NO_MARKS)

    def test_more_wanted_leaves_them(self):
        rows = run(style(100), put(box(1), mark(5)), ASK, ASK, put(FORCED), ASK)
        self.assertEqual(rows[5], [1, -10000, -1, 5, 5])


class RefusedTest(unittest.TestCase):
    def refused(self, *calls):
        self.assertEqual(last(*calls, ASK), [-6])
        before = pressed(*calls)
        after = pressed(*calls, ASK, ASK)
        self.assertEqual(column(after), column(before))
        self.assertEqual(after.last_mark, before.last_mark)
        self.assertEqual(shares(after), shares(before))
        self.assertEqual([box.numbers for box in after.last_page], [box.numbers for box in before.last_page])

    def test_a_thing_too_deep_for_the_page(self):
        for thing in (nested(8), box(1, things=[nested(7)])):
            self.refused(style(100), put(mark(1), box(1), thing, FORCED))
            self.refused(style(100), put(mark(3), box(1), FORCED), ASK, put(mark(1), box(1), thing, FORCED))
        self.assertEqual(asked(box(1), nested(7), FORCED), AT_FORCED)

    def test_behind_the_break_it_may_be_deep(self):
        rows = run(style(100), put(box(1), FORCED, box(1), nested(8), FORCED), ASK, ASK, PAGE)
        self.assertEqual(rows[2:4], [AT_FORCED, [-6]])
        self.assertEqual(rows[4], page_row(0, 100, 0, (0, 0, 1), glue(), box(1)))

    def test_an_insertion_may_be_as_deep_as_can_be(self):
        note = insertion(3, box(1, things=[nested(6)]))
        self.assertEqual(asked(box(1), note, FORCED), AT_FORCED + [3])

    def test_the_glue_at_the_top_past_its_end(self):
        top = [LONGEST, 0, 0, 0, 0]
        self.refused(style(100, 0, top), put(box(-1), FORCED))
        self.assertEqual(last(style(100, 0, top), put(box(0), FORCED), ASK), AT_FORCED)

    def test_the_width_past_its_end(self):
        self.refused(style(100), put(box(1, 0, LONGEST, 1), FORCED))
        self.refused(style(100), put(box(1), leaders(NONE, box(1, 0, 1, LONGEST)), FORCED))
        self.assertEqual(asked(box(1, 0, LONGEST, 0), FORCED), AT_FORCED)

    def test_the_goal_past_its_ends(self):
        for height, skip in ((LONGEST, -1), (-LONGEST, 1)):
            told = class_told(3, [skip, 0, 0, 0, 0])
            things = put(insertion(3, box(0)), box(0), FORCED)
            self.refused(style(height), told, things)
            self.assertEqual(last(style(height + skip), told, things, ASK), AT_FORCED + [3])

    def test_a_refused_one_can_be_asked_again(self):
        rows = run(style(LONGEST), class_told(3, [-1, 0, 0, 0, 0]), put(mark(7), insertion(3, box(0)), box(0), FORCED), ASK, PAGE,
                   style(100), ASK, ASK, PAGE)
        self.assertEqual(rows[3:5], [[-6], [0]])
        self.assertEqual(rows[6:8], [[1, -10000, -1, 7, 7, 3], MORE])
        self.assertEqual(rows[8], page_row(0, 101, 0, (0, 0, 1), mark(7), glue(), box(0)))

    # What's left begins with the glue told with the cut, less the height of the box behind it.
    def cut_note(self, size, height):
        return insertion(3, box(10), penalty(0), box(height), box(LONGEST), box(50), five=[size, 0, 0, 0, 0])

    def test_the_rest_s_glue_past_its_end(self):
        told = [style(100), class_told(3, NONE, 0, 10)]
        for size, height in ((LONGEST, -1), (LONGEST, -LONGEST), (1, -LONGEST), (LONGEST - 4, -5)):
            note = self.cut_note(size, height)
            self.refused(*told, put(mark(1), box(9), note, FORCED))
            self.refused(*told, put(mark(3), insertion(4, box(1)), FORCED), ASK, put(box(9), note, FORCED))
            self.refused(*told, put(insertion(4, box(1)), note, insertion(4, box(500)), FORCED))

    def test_the_rest_s_glue_at_its_end(self):
        told = [style(100), class_told(3, NONE, 0, 10)]
        for size, height in ((LONGEST, 0), (0, -LONGEST), (LONGEST - 5, -5)):
            calls = told + [put(box(9), self.cut_note(size, height), FORCED), ASK]
            self.assertEqual(last(*calls), AT_FORCED + [3])
            rest = insertion(3, glue(LONGEST), box(height), box(LONGEST), box(50), five=[size, 0, 0, 0, 0])
            self.assertEqual(column(pressed(*calls)), [rest, penalty(10000)])
            self.assertEqual(last(*calls, put(FORCED), ASK), AT_FORCED + [3])

    def test_the_rest_s_glue_is_0_at_least(self):
        calls = [style(100), class_told(3, NONE, 0, 10), put(box(9), self.cut_note(-LONGEST, 20), FORCED), ASK]
        self.assertEqual(last(*calls), AT_FORCED + [3])

    def test_a_cut_behind_the_page_s_end_refuses_nothing(self):
        note = self.cut_note(LONGEST, -1)
        calls = [style(100), class_told(3, NONE, 0, 10), put(box(60), glue(3), note, box(60), FORCED), ASK]
        self.assertEqual(last(*calls), AT_GLUE)
        self.assertEqual(column(pressed(*calls)), [glue(3), note, box(60), FORCED])
        self.assertEqual(last(*calls, ASK), [-6])

    def test_what_waits_whole_has_no_glue_that_could_be_past_its_end(self):
        note = self.cut_note(LONGEST, -1)
        calls = [style(100), class_told(3, NONE, 0, 10, 1), put(box(9), note, FORCED), ASK]
        self.assertEqual(last(*calls), AT_FORCED)
        self.assertEqual(column(pressed(*calls)), [note, penalty(10000)])
