"""The calls style and class."""

import unittest

from columnpages.styles import class_style, first_style
from tests.build import ASK, FORCED, LONGEST, NONE, PAGE, box, class_told, glue, insertion, last, page_row, penalty
from tests.build import put, run, style

GLUE_ENDS = [(-LONGEST, LONGEST), (-LONGEST, LONGEST), (0, 3), (-LONGEST, LONGEST), (0, 3)]


def glue_rows(offset):
    """A glue's five with one number at an end, or offset beyond it."""
    for place, ends in enumerate(GLUE_ENDS):
        for number in (ends[0] - offset, ends[1] + offset):
            yield NONE[:place] + [number] + NONE[place + 1:]


WRONG_LENGTHS = ([], [0], [0, 0, 0, 0], [0, 0, 0, 0, 0, 0], [5] + [0] * 20)


class StyleTest(unittest.TestCase):
    def test_right_ones_are_answered_by_0(self):
        self.assertEqual(run(style(100), style(100, 5, [10, 1, 2, 3, 1]), style(-7)), [[0], [0], [0]])

    def test_ends_of_the_ranges(self):
        for height in (-LONGEST, LONGEST):
            self.assertEqual(last(style(height)), [0])
        for depth in (0, LONGEST):
            self.assertEqual(last(style(0, depth)), [0])
        for five in glue_rows(0):
            self.assertEqual(last(style(0, 0, five)), [0], five)

    def test_past_the_ends(self):
        for height in (-LONGEST - 1, LONGEST + 1, -2 ** 63, 2 ** 63 - 1):
            self.assertEqual(last(style(height)), [-1])
        for depth in (-1, LONGEST + 1, -LONGEST, -2 ** 63, 2 ** 63 - 1):
            self.assertEqual(last(style(0, depth)), [-1])
        for five in glue_rows(1):
            self.assertEqual(last(style(0, 0, five)), [-1], five)

    def test_no_glue(self):
        for row in WRONG_LENGTHS:
            self.assertEqual(last(style(0, 0, row)), [-1], row)

    def test_what_comes_behind_a_refused_one_is_still_read(self):
        self.assertEqual(run(style(0, -1, [1, 2]), style(0, 0, []), style(3)), [[-1], [-1], [0]])

    def test_each_number_is_used(self):
        rows = run(style(50, 3, [20, 7, 1, 9, 2]), put(box(5, 8), FORCED), ASK, PAGE)
        self.assertEqual(rows[2], [1, -10000, -1, -1, -1])
        # By itself 15 + 5 + 8, less the depth of 3: 25; 25 are lacking.
        self.assertEqual(rows[3], page_row(0, 50, 3, (1, 25, 7), glue(15, 7, 1, 9, 2), box(5, 8)))

    def test_at_first_all_is_0(self):
        self.assertEqual(last(put(box(0, 4), FORCED), ASK, PAGE), page_row(0, 0, 0, (0, 0, 1), glue(), box(0, 4)))

    def test_at_first_the_glue_at_the_top_is_none(self):
        told = first_style()
        self.assertEqual((told.height, told.max_depth, told.top), (0, 0, NONE))
        self.assertEqual(last(put(box(-4), FORCED), ASK, PAGE), page_row(0, 0, 0, (0, 0, 1), glue(4), box(-4)))

    def test_refused_ones_change_nothing(self):
        refused = [style(60, -1, [9, 0, 0, 0, 0]), style(60, 9, [1]), style(LONGEST + 1, 9), style(60, 9, [0, 0, 4, 0, 0])]
        calls = [style(50, 3, [20, 0, 0, 0, 0])] + refused + [put(box(5, 8), FORCED), ASK, PAGE]
        self.assertEqual(last(*calls), page_row(0, 50, 3, (0, 0, 1), glue(15), box(5, 8)))

    def test_a_later_one_holds_for_what_is_in_the_column(self):
        rows = run(style(50), put(box(5), FORCED), style(40), ASK, PAGE)
        self.assertEqual(rows[4][4], 40)

    def test_a_later_one_leaves_the_page_that_was_handed_over(self):
        rows = run(style(50), put(box(5), FORCED), ASK, style(40), PAGE)
        self.assertEqual(rows[4][4], 50)


class ClassTest(unittest.TestCase):
    def goal(self, *told):
        """The page's height when 10 of class 3 stand on it."""
        row = last(style(100), *told, put(insertion(3, box(10)), box(1), FORCED), ASK, PAGE)
        return row[4]

    def test_right_ones_are_answered_by_0(self):
        self.assertEqual(run(class_told(0), class_told(255, [1, 2, 3, 4, 2], 500, 7, 1)), [[0], [0]])

    def test_ends_of_the_ranges(self):
        for number in (0, 255):
            self.assertEqual(last(class_told(number)), [0])
        for factor in (0, 1000000):
            self.assertEqual(last(class_told(1, NONE, factor)), [0])
        for most in (-LONGEST, LONGEST):
            self.assertEqual(last(class_told(1, NONE, 1, most)), [0])
        for late in (0, 1):
            self.assertEqual(last(class_told(1, NONE, 1, 1, late)), [0])
        for five in glue_rows(0):
            self.assertEqual(last(class_told(1, five)), [0], five)

    def test_past_the_ends(self):
        for number in (-1, 256, 2 ** 63 - 1):
            self.assertEqual(last(class_told(number)), [-1])
        for factor in (-1, 1000001, -2 ** 63, 2 ** 63 - 1):
            self.assertEqual(last(class_told(1, NONE, factor)), [-1])
        for most in (-LONGEST - 1, LONGEST + 1, -2 ** 63, 2 ** 63 - 1):
            self.assertEqual(last(class_told(1, NONE, 1, most)), [-1])
        for late in (-1, 2, 2 ** 63 - 1):
            self.assertEqual(last(class_told(1, NONE, 1, 1, late)), [-1])
        for five in glue_rows(1):
            self.assertEqual(last(class_told(1, five)), [-1], five)

    def test_no_glue(self):
        for row in WRONG_LENGTHS:
            self.assertEqual(last(class_told(1, row)), [-1], row)

    def test_at_first_a_class_takes_what_it_is_high(self):
        self.assertEqual(self.goal(), 90)
        told = class_style({}, 3)
        self.assertEqual((told.skip, told.factor, told.most, told.late), (NONE, 1000, LONGEST, False))

    def test_skip_and_factor_are_used(self):
        self.assertEqual(self.goal(class_told(3, [4, 0, 0, 0, 0], 2000)), 100 - 4 - 20)

    def test_each_class_has_its_own(self):
        self.assertEqual(self.goal(class_told(2, [4, 0, 0, 0, 0], 2000), class_told(4, NONE, 3000)), 90)

    def test_a_later_one_replaces_all_of_an_earlier_one(self):
        self.assertEqual(self.goal(class_told(3, [4, 0, 0, 0, 0], 2000), class_told(3)), 90)

    def test_most_is_used(self):
        # A class that has no room waits, as there is a box before.
        things = [box(1), insertion(3, box(10)), FORCED]
        self.assertEqual(last(style(100), put(*things), ASK), [1, -10000, -1, -1, -1, 3])
        self.assertEqual(last(style(100), class_told(3, NONE, 1000, 9), put(*things), ASK), [1, -10000, -1, -1, -1])

    def test_late_is_used(self):
        things = [box(95), insertion(3, box(5), penalty(0), box(5)), FORCED]
        self.assertEqual(last(style(100), put(*things), ASK), [1, -10000, -1, -1, -1, 3])
        late = class_told(3, NONE, 1000, LONGEST, 1)
        self.assertEqual(last(style(100), late, put(*things), ASK), [1, -10000, -1, -1, -1])

    def test_refused_ones_change_nothing(self):
        right = class_told(3, [4, 0, 0, 0, 0], 2000)
        for wrong in (class_told(3, [9, 0, 0, 0, 4], 1), class_told(3, [9], 1), class_told(3, NONE, -1),
                      class_told(3, NONE, 1, LONGEST + 1), class_told(3, NONE, 1, 1, 2)):
            self.assertEqual(self.goal(right, wrong), 76)

    def test_refused_ones_of_another_class_change_nothing(self):
        self.assertEqual(self.goal(class_told(3, [4, 0, 0, 0, 0], 2000), class_told(259)), 76)
