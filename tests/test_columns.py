"""Columns: their sizes, how they are packed, how badly they fit."""

import unittest

from columnpages.columns import badness, packed, sums_of
from columnpages.reading import read_list
from tests.build import NONE, adjust, anchor, box, disc, glue, glyph, insertion, kern, leaders, listed, mark, penalty
from tests.build import rule


def read(*things):
    return read_list(listed(things))


def sizes(greatest_depth, *things):
    """Width, height and depth of a column that's packed to what it is by itself."""
    sums = sums_of(read(*things))
    depth = sums.depth_within(greatest_depth)
    return (sums.widest, sums.total - depth, depth)


def setting(height, *things):
    return tuple(packed(read(*things), height, 0).numbers[5:8])


def fits(height, *things):
    sums = sums_of(read(*things))
    return badness(sums.lacks_to(height, 0), sums.stretches, sums.shrinks)


class SizeTest(unittest.TestCase):
    def test_nothing(self):
        self.assertEqual(sizes(-1), (0, 0, 0))

    def test_boxes_and_rules_stand_under_one_another(self):
        self.assertEqual(sizes(-1, box(10, 2), rule(7, 5, 1), box(4, 3)), (7, 22, 3))

    def test_running_sides_are_0(self):
        self.assertEqual(sizes(-1, rule()), (0, 0, 0))
        self.assertEqual(sizes(-1, rule(None, 5, None)), (0, 5, 0))
        self.assertEqual(sizes(-1, rule(None, None, 4)), (0, 0, 4))
        self.assertEqual(sizes(-1, rule(3, None, None)), (3, 0, 0))

    def test_kern_glue_and_leaders_have_their_size(self):
        self.assertEqual(sizes(-1, kern(3), glue(4, 50, 0, 60, 0), leaders([5, 0, 0, 0, 0], rule(1, 80, 90))), (1, 12, 0))
        self.assertEqual(sizes(-1, kern(-3)), (0, -3, 0))

    def test_all_others_are_nothing(self):
        others = [glyph(1, 9, 9, 9), penalty(50), disc([box(9, 9, 9)]), adjust(box(9, 9, 9)), mark(3),
                  insertion(1, box(9, 9, 9), five=[9, 9, 0, 9, 0], depth=9), anchor(9)]
        self.assertEqual(sizes(-1, *others), (0, 0, 0))
        self.assertEqual(sizes(-1, box(5, 2, 1), *others), (1, 5, 2))

    def test_width_is_the_greatest(self):
        self.assertEqual(sizes(-1, box(0, 0, 5, 3), box(0, 0, 7))[0], 8)
        self.assertEqual(sizes(-1, box(0, 0, 9, -3), rule(5))[0], 6)
        self.assertEqual(sizes(-1, rule(9, 1, 1), box(0, 0, 3))[0], 9)
        self.assertEqual(sizes(-1, leaders(NONE, box(1, 1, 5, 6)), box(0, 0, 3))[0], 11)
        self.assertEqual(sizes(-1, leaders(NONE, rule(4)), leaders(NONE, rule()))[0], 4)

    def test_width_is_0_at_least(self):
        self.assertEqual(sizes(-1, box(0, 0, -5), rule(-7), leaders(NONE, rule(-2)))[0], 0)
        self.assertEqual(sizes(-1, box(0, 0, 5, -9))[0], 0)

    def test_depth_is_that_of_the_last_box_or_rule(self):
        self.assertEqual(sizes(-1, box(1, 2), box(3, 4))[1:], (6, 4))
        self.assertEqual(sizes(-1, box(1, 2), rule(1, 3, 5))[1:], (6, 5))
        self.assertEqual(sizes(-1, box(1, 2), rule())[1:], (3, 0))
        self.assertEqual(sizes(-1, box(1, -2))[1:], (1, -2))

    def test_kern_glue_and_leaders_behind_make_it_0(self):
        for thing in (kern(0), glue(), leaders(NONE, rule(1, 1, 1))):
            self.assertEqual(sizes(-1, box(1, 2), thing)[1:], (3, 0))
            self.assertEqual(sizes(-1, box(1, 2), thing, mark(1))[1:], (3, 0))
            self.assertEqual(sizes(-1, thing, box(1, 2))[1:], (1, 2))

    def test_others_behind_leave_it(self):
        for thing in (penalty(0), mark(1), anchor(1), insertion(1, box(1)), glyph(), adjust(), disc()):
            self.assertEqual(sizes(-1, box(1, 2), thing)[1:], (1, 2))

    def test_a_greatest_depth(self):
        self.assertEqual(sizes(5, box(1, 6))[1:], (2, 5))
        self.assertEqual(sizes(6, box(1, 6))[1:], (1, 6))
        self.assertEqual(sizes(0, box(1, 6))[1:], (7, 0))
        self.assertEqual(sizes(0, box(1, -6))[1:], (1, -6))
        self.assertEqual(sizes(-3, box(1, 6))[1:], (1, 6))


class PackedTest(unittest.TestCase):
    def test_the_box(self):
        things = [box(10, 3, 6, 1), mark(2)]
        self.assertEqual(packed(read(*things), 50, 2).numbers, box(50, 2, 7, 0, things, 1, (0, 0, 1)))

    def test_just_right(self):
        self.assertEqual(setting(10, box(10), glue(0, 5, 3, 5, 3)), (0, 0, 1))

    def test_stretch_of_each_order(self):
        for order in range(4):
            self.assertEqual(setting(18, box(10), glue(2, 4, order), glue(0, 5, order)), (order, 6, 9))

    def test_one_more_or_less(self):
        self.assertEqual(setting(11, box(10), glue(0, 4, 0, 5, 0)), (0, 1, 4))
        self.assertEqual(setting(9, box(10), glue(0, 4, 0, 5, 0)), (0, -1, 5))

    def test_stretch_of_order_0_may_be_passed(self):
        self.assertEqual(setting(100, glue(0, 5)), (0, 100, 5))

    def test_the_highest_order_above_0_stretches(self):
        self.assertEqual(setting(9, glue(0, 1, 0), glue(0, 2, 1), glue(0, 3, 2), glue(0, 4, 3)), (3, 9, 4))
        self.assertEqual(setting(9, glue(0, 1, 0), glue(0, 2, 1), glue(0, 3, 2), glue(0, -4, 3)), (2, 9, 3))
        self.assertEqual(setting(9, glue(0, 1, 0), glue(0, 2, 1), glue(0, 3, 2), glue(0, -3, 2)), (1, 9, 2))
        self.assertEqual(setting(9, glue(0, -1, 0), glue(0, -2, 1)), (0, 0, 1))

    def test_leaders_stretch_and_shrink(self):
        self.assertEqual(setting(9, leaders([0, 2, 1, 0, 0], rule())), (1, 9, 2))
        self.assertEqual(setting(-9, leaders([0, 0, 0, 2, 1], rule())), (1, -9, 2))

    def test_none_to_stretch_or_shrink(self):
        self.assertEqual(setting(20, box(10), glue(0, 0, 0, 9, 0), kern(3)), (0, 0, 1))
        self.assertEqual(setting(5, box(10), glue(0, 9, 3, 0, 0), kern(3)), (0, 0, 1))
        self.assertEqual(setting(5, box(10), glue(0, 0, 0, -9, 0)), (0, 0, 1))

    def test_shrink_of_each_order(self):
        for order in range(4):
            self.assertEqual(setting(6, box(10), glue(2, 0, 0, 4, order), glue(0, 0, 0, 5, order)), (order, -6, 9))

    def test_shrink_of_order_0_is_not_passed(self):
        self.assertEqual(setting(3, box(10), glue(0, 0, 0, 7, 0)), (0, -7, 7))
        self.assertEqual(setting(2, box(10), glue(0, 0, 0, 7, 0)), (0, -7, 7))
        self.assertEqual(setting(4, box(10), glue(0, 0, 0, 7, 0)), (0, -6, 7))

    def test_shrink_of_higher_orders_is_passed(self):
        for order in (1, 2, 3):
            self.assertEqual(setting(2, box(10), glue(0, 0, 0, 7, order)), (order, -8, 7))

    def test_numbers_are_not_shortened(self):
        self.assertEqual(setting(16, box(10), glue(0, 4)), (0, 6, 4))
        self.assertEqual(setting(6, box(10), glue(0, 0, 0, 8, 0)), (0, -4, 8))

    def test_the_depth_counts_for_what_is_lacking(self):
        five = [0, 9, 1, 9, 1]
        for greatest, lack in ((0, -5), (2, -3), (7, 2), (9, 2), (-1, 2)):
            things = read([2] + five, box(10, 7))
            self.assertEqual(packed(things, 12, greatest).numbers[5:8], [1, lack, 9])


class BadnessTest(unittest.TestCase):
    def test_just_right_is_0(self):
        self.assertEqual(fits(10, box(10)), 0)

    def test_stretched_by_order_0(self):
        for lack, bad in ((1, 0), (2, 0), (3, 2), (5, 12), (10, 100), (11, 133), (20, 800), (46, 9733), (47, 10000), (99, 10000)):
            self.assertEqual(fits(10 + lack, box(10), glue(0, 10)), bad, lack)

    def test_stretched_by_higher_orders_is_0(self):
        for order in (1, 2, 3):
            self.assertEqual(fits(1000000, box(10), glue(0, 1, order), glue(0, 10)), 0)

    def test_nothing_to_stretch_is_the_worst(self):
        self.assertEqual(fits(11, box(10)), 10000)
        self.assertEqual(fits(11, box(10), glue(0, -5), glue(0, -5, 2)), 10000)

    def test_shrunk_by_order_0(self):
        for over, bad in ((1, 0), (3, 2), (5, 12), (9, 72), (10, 100), (11, None), (500, None)):
            self.assertEqual(fits(1000 - over, box(1000), glue(0, 0, 0, 10, 0)), bad, over)

    def test_shrunk_by_higher_orders_is_0(self):
        for order in (1, 2, 3):
            self.assertEqual(fits(1, box(1000), glue(0, 0, 0, 1, order)), 0)

    def test_nothing_to_shrink_is_too_full(self):
        self.assertIsNone(fits(9, box(10)))
        self.assertIsNone(fits(9, box(10), glue(0, 50, 3, -1, 2)))
        self.assertIsNone(fits(9, box(10), glue(0, 50, 3, -1, 0)))
