"""Columns that are cut: the breaks, what they cost, the two parts."""

import unittest

from columnpages.cutting import cut_column, cut_place
from columnpages.reading import read_list
from tests.build import FORCED, NONE, adjust, anchor, box, disc, glue, glyph, insertion, kern, leaders, listed, mark
from tests.build import penalty, rule


def read(*things):
    return read_list(listed(things))


def place(height, *things, depth=-1):
    return cut_place(read(*things), height, depth)


def parts(height, *things, five=NONE, depth=-1):
    part = cut_column(read(*things), height, depth, five)
    if part is None:
        return None
    return [thing.numbers for thing in part.upper_part], part.penalty, [thing.numbers for thing in part.rest]


class BreakTest(unittest.TestCase):
    """All are cut to 10 with 10 above: a break at 1 fits, what's behind is too full."""

    def test_glue_behind_a_box(self):
        self.assertEqual(place(10, box(10), glue(), box(10)), 1)

    def test_leaders_behind_a_box(self):
        self.assertEqual(place(10, box(10), leaders(NONE, rule()), box(10)), 1)

    def test_glue_behind_others(self):
        for thing in (mark(1), anchor(1), glyph(), adjust(), disc(), insertion(1), rule()):
            self.assertEqual(place(10, box(10), thing, glue(), box(10)), 2)

    def test_glue_behind_what_goes_with_glue_is_no_break(self):
        for thing in (kern(1), glue(1), leaders([1, 0, 0, 0, 0], rule())):
            # Behind the second thing it would be too full: the glue at 2 would stop, but never be taken.
            self.assertEqual(place(11, box(10), thing, glue(0, 0, 0, 0, 0), box(10)), 1)
        self.assertEqual(place(10, box(10), penalty(10000), glue(), box(10)), -1)

    def test_glue_at_the_beginning_is_no_break(self):
        self.assertEqual(place(-5, glue(), box(10)), -1)
        self.assertEqual(place(5, glue(), box(10)), -1)

    def test_kern_before_glue(self):
        self.assertEqual(place(10, box(10), kern(1), glue(), box(10)), 1)
        self.assertEqual(place(10, box(10), kern(1), leaders(NONE, rule()), box(10)), 1)

    def test_kern_before_others_is_no_break(self):
        self.assertEqual(place(10, box(10), kern(1), box(10)), -1)
        self.assertEqual(place(10, box(10), kern(1), mark(1), glue(), box(10)), -1)
        self.assertEqual(place(10, box(10), kern(1)), -1)

    def test_kern_at_the_beginning(self):
        self.assertEqual(place(5, kern(1), glue(), box(10)), 0)

    def test_penalties(self):
        for number in (9999, 0, -9999, -10000, -20000):
            self.assertEqual(place(10, box(10), penalty(number), box(10)), 1)
        for number in (10000, 10001):
            self.assertEqual(place(10, box(10), penalty(number), box(10)), -1)

    def test_penalty_at_the_beginning(self):
        self.assertEqual(place(5, penalty(0), box(10)), 0)

    def test_the_end(self):
        self.assertEqual(place(10, box(10)), 1)
        self.assertEqual(place(20, box(10)), 1)
        self.assertEqual(place(9, box(10)), -1)
        self.assertEqual(place(0), 0)


class CostTest(unittest.TestCase):
    def test_the_least_is_taken(self):
        # 15 to 20 by a stretch of 5: 100; 18 to 20: 6.
        stretch = glue(0, 5)
        self.assertEqual(place(20, box(15), stretch, penalty(0), box(3), penalty(0), box(9)), 4)
        self.assertEqual(place(20, box(15), stretch, penalty(0), box(3), penalty(95), box(9)), 2)

    def test_of_several_the_last(self):
        stretch = glue(0, 5)
        self.assertEqual(place(20, box(15), stretch, penalty(0), box(3), penalty(94), box(9)), 4)
        self.assertEqual(place(20, box(15), penalty(3), box(1), penalty(2), box(1), penalty(1), box(9)), 5)

    def test_100000_if_it_fits_worst(self):
        # The penalty doesn't count at the first, which can't be stretched.
        self.assertEqual(place(20, box(15), penalty(-9999), box(1), glue(0, 9), penalty(9998), box(9)), 4)

    def test_just_below_the_worst_the_penalty_counts(self):
        # 46 by a stretch of 10 is 9733; 9733 - 9700 is 33.
        self.assertEqual(place(46, glue(0, 10), penalty(-9700), box(46), penalty(34), box(9)), 1)
        self.assertEqual(place(46, glue(0, 10), penalty(-9700), box(46), penalty(33), box(9)), 3)
        self.assertEqual(place(56, box(10), glue(0, 10), penalty(-9700), box(46), penalty(33), box(9)), 4)
        self.assertEqual(place(56, box(10), glue(0, 10), penalty(-9700), box(46), penalty(34), box(9)), 2)

    def test_a_forced_one_stops(self):
        self.assertEqual(place(20, box(5), FORCED, box(15), penalty(-5000), box(9)), 1)
        self.assertEqual(place(20, box(5), FORCED, box(15), penalty(-20000), box(9)), 1)
        self.assertEqual(place(20, box(20), penalty(-9999), FORCED, box(1), penalty(0)), 2)
        self.assertEqual(place(20, box(20), penalty(-9999), penalty(-10001), box(1)), 2)

    def test_a_forced_one_costs_its_penalty_alone(self):
        # 5 by a stretch of 10 is 12, and doesn't count; neither does it count if it fits worst.
        self.assertEqual(place(20, box(20), glue(0, 10), penalty(-9999), kern(-5), FORCED, box(9)), 4)
        self.assertEqual(place(20, box(15), glue(0, 10), penalty(0), glue(0, -10), FORCED, box(9)), 4)

    def test_the_first_thing_may_be_the_best_break(self):
        self.assertEqual(place(0, penalty(-5), mark(1), penalty(0)), 0)

    def test_a_forced_one_that_is_too_full_is_not_counted(self):
        self.assertEqual(place(20, box(5), penalty(9000), box(16), FORCED), 1)
        self.assertEqual(place(20, box(21), FORCED, box(5)), -1)

    def test_it_stops_at_the_first_that_is_too_full(self):
        self.assertEqual(place(20, box(15), penalty(9000), box(6), penalty(0), kern(-6), penalty(0)), 1)

    def test_shrink_of_higher_orders_is_never_too_full(self):
        shrink = glue(0, 0, 0, 1, 2)
        self.assertEqual(place(20, shrink, box(15), penalty(0), box(600), penalty(-1), box(1), penalty(1)), 4)
        self.assertEqual(place(20, shrink, box(15), penalty(0), box(600), penalty(0), box(1), penalty(1)), 7)

    def test_the_depth(self):
        self.assertEqual(place(10, box(10, 5), penalty(0), box(1)), 1)
        self.assertEqual(place(10, box(10, 5), penalty(0), box(1), depth=5), 1)
        self.assertEqual(place(10, box(10, 5), penalty(0), box(1), depth=4), -1)
        self.assertEqual(place(15, box(10, 5), penalty(0), box(1), depth=0), 1)

    def test_the_end_costs_as_a_penalty_of_0(self):
        self.assertEqual(place(20, box(20), penalty(-1), mark(1)), 1)
        self.assertEqual(place(20, box(20), penalty(0), mark(1)), 3)
        self.assertEqual(place(20, box(19), penalty(-50), box(1)), 3)


class PartsTest(unittest.TestCase):
    def test_at_glue(self):
        self.assertEqual(parts(10, box(10), glue(3), box(4)), ([box(10)], 0, [glue(), box(4)]))

    def test_at_a_kern(self):
        self.assertEqual(parts(10, box(10), kern(3), glue(), box(4)), ([box(10)], 0, [glue(), box(4)]))

    def test_at_a_penalty(self):
        self.assertEqual(parts(10, box(10), penalty(30), box(4)), ([box(10)], 30, [glue(), box(4)]))
        self.assertEqual(parts(10, box(10), FORCED, box(4)), ([box(10)], -10000, [glue(), box(4)]))

    def test_what_is_dropped_at_the_beginning_of_the_rest(self):
        dropped = [glue(1), kern(2), penalty(3), leaders(NONE, rule())]
        stays = [mark(1), anchor(2), glyph(), adjust(box(1)), disc()]
        among = [stays[0]] + dropped + stays[1:3] + dropped + stays[3:]
        for thing in (box(4), rule(4, 4)):
            self.assertEqual(parts(10, box(10), FORCED, *among, thing, glue(9), kern(1)),
                             ([box(10)], -10000, stays + [glue(), thing, glue(9), kern(1)]))

    def test_up_to_the_first_insertion(self):
        note = insertion(4, box(1))
        self.assertEqual(parts(10, box(10), penalty(30), kern(1), mark(1), note, glue(3), kern(2), box(4), five=[9, 8, 1, 7, 2]),
                         ([box(10)], 30, [mark(1), note, glue(3), kern(2), glue(5, 8, 1, 7, 2), box(4)]))

    def test_a_rest_of_insertions_has_no_glue_above(self):
        note = insertion(4, box(1))
        self.assertEqual(parts(10, box(10), penalty(30), kern(1), note, glue(3), five=[9, 8, 1, 7, 2]),
                         ([box(10)], 30, [note, glue(3)]))

    def test_the_glue_above(self):
        five = [9, 8, 1, 7, 2]
        for thing, size in ((box(4, 3), 5), (box(9), 0), (box(30), 0), (box(-2), 11), (rule(1, 4), 5), (rule(), 9)):
            self.assertEqual(parts(10, box(10), penalty(0), thing, box(1), five=five),
                             ([box(10)], 0, [glue(size, 8, 1, 7, 2), thing, box(1)]))
        self.assertEqual(parts(10, box(10), penalty(0), box(-4), box(90), five=[-9, 0, 0, 0, 0]),
                         ([box(10)], 0, [glue(0), box(-4), box(90)]))

    def test_no_rest(self):
        for behind in ([], [mark(1)], [glue(1), anchor(1), kern(3)]):
            self.assertIsNone(parts(10, box(10), penalty(-1), *behind))
        self.assertIsNone(parts(10, box(10)))

    def test_no_upper_part(self):
        for upper in ([], [mark(1)], [kern(3), anchor(4)], [glyph(1, 9, 9, 9)], [adjust(box(3))]):
            self.assertIsNone(parts(10, *upper, FORCED, box(4)))

    def test_an_upper_part_of_rules_or_insertions(self):
        for upper in (rule(), insertion(3), insertion(3, box(4))):
            self.assertEqual(parts(10, upper, FORCED, box(4)), ([upper], -10000, [glue(), box(4)]))

    def test_first_break_too_full(self):
        self.assertIsNone(parts(9, box(10), penalty(0), box(4)))
        self.assertIsNone(parts(9, box(10), FORCED, box(4)))
