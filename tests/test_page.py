"""The call page: before there was a page and after, its box worked out by hand."""

import unittest

from tests.build import ASK, FORCED, NONE, PAGE, adjust, anchor, box, class_told, disc, glue, glyph, insertion, kern
from tests.build import last, leaders, mark, page_row, penalty, put, rule, run, style

STAY = penalty(10000)


def shown(*things, height=100, max_depth=0, top=NONE):
    return last(style(height, max_depth, top), put(*things, FORCED), ASK, PAGE)


class PageTest(unittest.TestCase):
    def test_before_there_was_any(self):
        self.assertEqual(run(PAGE, put(box(1)), PAGE, ASK, PAGE), [[0], [1], [0], [0], [0]])

    def test_it_stays_until_the_next(self):
        rows = run(style(100), put(box(1), FORCED, box(2)), ASK, PAGE, PAGE, ASK, PAGE, put(FORCED), PAGE, ASK, PAGE)
        first = page_row(0, 100, 0, (0, 0, 1), glue(), box(1))
        self.assertEqual([rows[3], rows[4], rows[6], rows[8]], [first] * 4)
        self.assertEqual(rows[10], page_row(0, 100, 0, (0, 0, 1), glue(), box(2)))

    def test_sides(self):
        # 5 + 3 + 20 + 4 + 10 are 42, less a depth of 7: 35 by itself.
        row = shown(box(5, 3, 9, 2), kern(20), rule(10, 4, 10), max_depth=7)
        self.assertEqual(row, page_row(11, 100, 7, (0, 0, 1), glue(), box(5, 3, 9, 2), kern(20), rule(10, 4, 10)))

    def test_depth(self):
        for behind, depth in (([], 6), ([mark(1)], 6), ([STAY], 6), ([kern(0)], 0), ([STAY, glue()], 0)):
            self.assertEqual(shown(box(5, 6), *behind, max_depth=8)[5], depth)
        self.assertEqual(shown(box(5, 6), max_depth=6)[5], 6)
        self.assertEqual(shown(box(5, 6), max_depth=5)[5], 5)
        self.assertEqual(shown(box(5, 6))[5], 0)
        self.assertEqual(shown(box(5, -6))[5], -6)

    def test_all_kinds_stand_on_it(self):
        within = [box(1, things=[glyph(7)]), rule(1, None, 2), glyph(1, 2, 3, 4), kern(5), STAY, glue(1, 2, 3, 4, 0),
                  leaders([1, 2, 3, 4, 1], box(1), 2), disc([glyph()], [kern(1)], []), adjust(mark(8)), mark(9), anchor(10)]
        # 1 + 0 + 2 + 5 + 1 + 1 are 10; the stretches of order 3 are 4.
        self.assertEqual(shown(*within), page_row(1, 100, 0, (3, 90, 4), glue(), *within))

    def test_just_right(self):
        self.assertEqual(shown(box(100), STAY, glue(0, 5, 1, 5, 1))[6:9], [0, 0, 1])

    def test_stretch_of_each_order(self):
        for order in range(4):
            space = glue(10, 6, order)
            row = shown(box(40), STAY, space, STAY, space, box(20))
            self.assertEqual(row, page_row(0, 100, 0, (order, 20, 12), glue(), box(40), STAY, space, STAY, space, box(20)))

    def test_the_highest_order_stretches(self):
        self.assertEqual(shown(box(40), STAY, glue(0, 9, 0), glue(0, 8, 2), glue(0, 7, 1))[6:9], [2, 60, 8])

    def test_nothing_stretches(self):
        self.assertEqual(shown(box(40), STAY, glue(0, 0, 0, 9, 0), glue(0, -8, 2))[6:9], [0, 0, 1])

    def test_shrink_of_each_order(self):
        for order in range(4):
            space = glue(10, 0, 0, 6, order)
            row = shown(box(70), STAY, space, STAY, space, box(20))
            self.assertEqual(row, page_row(0, 100, 0, (order, -10, 12), glue(), box(70), STAY, space, STAY, space, box(20)))

    def test_too_full(self):
        # As a page it's too full in each, but only order 0 shrinks no further.
        for order, setting in ((0, [0, -12, 12]), (1, [1, -30, 12]), (2, [2, -30, 12]), (3, [3, -30, 12])):
            self.assertEqual(shown(box(70), STAY, glue(60, 0, 0, 12, order))[6:9], setting)
        self.assertEqual(shown(box(70), STAY, glue(60, 9, 3))[6:9], [0, 0, 1])

    def test_the_glue_at_the_top_stretches_and_shrinks(self):
        self.assertEqual(shown(box(30), top=[40, 7, 2, 0, 0]), page_row(0, 100, 0, (2, 60, 7), glue(10, 7, 2), box(30)))
        self.assertEqual(shown(box(130), top=[40, 0, 0, 7, 2]), page_row(0, 100, 0, (2, -30, 7), glue(0, 0, 0, 7, 2), box(130)))

    def test_the_depth_counts_for_the_setting(self):
        # 10 + 20 + 9: by itself 39 less the depth.
        for max_depth, setting in ((0, [0, 61, 5]), (4, [0, 65, 5]), (9, [0, 70, 5]), (50, [0, 70, 5])):
            self.assertEqual(shown(kern(50), box(10), STAY, glue(20, 5), box(0, 9), max_depth=max_depth)[6:9], setting)

    def test_packed_to_the_goal_that_it_has_by_then(self):
        things = [box(10), insertion(3, box(20)), box(10), STAY, glue(0, 1, 1), penalty(0), insertion(3, box(30)), box(60), FORCED]
        rows = run(style(100), class_told(3, [5, 9, 3, 9, 0]), put(*things), ASK, PAGE)
        # Neither the second insertion nor the skip's stretch is in it.
        self.assertEqual(rows[3], [1, 0, -1, -1, -1, 3])
        self.assertEqual(rows[4], page_row(0, 75, 0, (1, 55, 1), glue(), box(10), box(10), STAY, glue(0, 1, 1)))
