"""The call things: what each class has on the last page."""

import unittest

from tests.build import ASK, FORCED, LONGEST, MORE, NONE, adjust, anchor, box, class_told, disc, glue, glyph, insertion
from tests.build import kern, last, leaders, listed, mark, penalty, put, rule, run, style, things_of
from tests.test_put_left import nested

NONE_OF_IT = [-4]


def ended(*classes):
    return [1, -10000, -1, -1, -1] + list(classes)


class OnThePageTest(unittest.TestCase):
    def test_each_class_has_its_own(self):
        column = [insertion(7, box(1), kern(2)), box(9), insertion(0, rule(1, 2, 3)), insertion(7, box(4)), insertion(255, mark(8))]
        rows = run(style(100), put(*column, FORCED), ASK, things_of(0), things_of(7), things_of(255))
        self.assertEqual(rows[2], ended(0, 7, 255))
        self.assertEqual(rows[3], listed([rule(1, 2, 3)]))
        self.assertEqual(rows[4], listed([box(1), kern(2), box(4)]))
        self.assertEqual(rows[5], listed([mark(8)]))

    def test_all_kinds_as_they_were_told(self):
        within = [glyph(1, 2, 3, 4), kern(-5), glue(1, 2, 3, 4, 1), leaders([1, 2, 0, 3, 0], box(1), 2), penalty(77), rule(1, None, 2),
                  box(1, 2, 3, 4, [glyph(9)], 1, (2, -3, 4)), disc([kern(1)], [], [glyph()]), adjust(mark(1)), mark(6),
                  insertion(9, box(1), five=[1, 2, 3, 4, 0], depth=5, cost=6), anchor(65535)]
        self.assertEqual(last(style(100), put(insertion(3, *within), FORCED), ASK, things_of(3)), listed(within))

    def test_asking_twice(self):
        rows = run(style(100), put(insertion(3, box(1)), FORCED), ASK, things_of(3), things_of(4), things_of(3))
        self.assertEqual(rows[3:], [listed([box(1)]), NONE_OF_IT, listed([box(1)])])

    def test_the_upper_part_of_what_was_cut(self):
        note = insertion(3, box(20), glue(5), box(10), penalty(0), box(90), five=[91, 2, 1, 3, 0])
        rows = run(style(100), put(box(60), note, FORCED), ASK, things_of(3), put(FORCED), ASK, things_of(3))
        self.assertEqual(rows[3], listed([box(20), glue(5), box(10)]))
        self.assertEqual(rows[6], listed([glue(1, 2, 1, 3, 0), box(90)]))

    def test_what_came_whole(self):
        self.assertEqual(last(style(100), put(insertion(3, box(700), kern(1)), FORCED), ASK, things_of(3)), listed([box(700), kern(1)]))

    def test_as_deep_as_can_be(self):
        self.assertEqual(last(style(100), put(insertion(3, nested(7)), FORCED), ASK, things_of(3)), listed([nested(7)]))


class NoneTest(unittest.TestCase):
    def test_no_page_yet(self):
        self.assertEqual(run(things_of(0), things_of(3)), [NONE_OF_IT, NONE_OF_IT])
        self.assertEqual(last(style(100), put(insertion(3, box(1)), box(1)), ASK, things_of(3)), NONE_OF_IT)
        self.assertEqual(last(style(100), put(insertion(3, box(1)), FORCED), things_of(3)), NONE_OF_IT)

    def test_a_class_that_is_not_on_it(self):
        for number in (0, 2, 4, 255):
            self.assertEqual(last(style(100), put(insertion(3, box(1)), FORCED), ASK, things_of(number)), NONE_OF_IT)

    def test_a_page_without_insertions(self):
        self.assertEqual(last(style(100), put(box(1), FORCED), ASK, things_of(0)), NONE_OF_IT)

    def test_no_class_at_all(self):
        for number in (256, 259, 1000, LONGEST, 2 ** 63 - 1):
            rows = run(style(100), put(insertion(3, box(1)), FORCED), things_of(number), ASK, things_of(number), things_of(3))
            self.assertEqual(rows[2:], [NONE_OF_IT, ended(3), NONE_OF_IT, listed([box(1)])])

    def test_only_an_insertion_without_things(self):
        rows = run(style(100), put(insertion(3), box(1), insertion(4, mark(1)), FORCED), ASK, things_of(3), things_of(4))
        self.assertEqual(rows[2:], [ended(4), NONE_OF_IT, listed([mark(1)])])

    def test_what_waits_is_not_on_it(self):
        rows = run(style(100), put(box(60), insertion(3, box(60)), FORCED), ASK, things_of(3))
        self.assertEqual(rows[2:], [ended(), NONE_OF_IT])

    def test_what_comes_behind_the_break_is_not_on_it(self):
        rows = run(style(100), put(box(60), glue(), insertion(3, box(5)), box(60), FORCED), ASK, things_of(3))
        self.assertEqual(rows[2:], [[1, 10000, -1, -1, -1], NONE_OF_IT])

    def test_what_is_behind_it_is_still_read(self):
        self.assertEqual(run(things_of(2), things_of(5), put(kern(1))), [NONE_OF_IT, NONE_OF_IT, [1]])


class LastPageTest(unittest.TestCase):
    FIRST = [style(100), put(insertion(3, box(1)), insertion(4, box(2)), FORCED), ASK]
    ASKED = [things_of(3), things_of(4), things_of(5)]
    TOLD = [listed([box(1)]), listed([box(2)]), NONE_OF_IT]

    def test_after_a_second_page(self):
        rows = run(*self.FIRST, put(insertion(5, box(3)), insertion(4, box(4)), FORCED), ASK, *self.ASKED)
        self.assertEqual(rows[4:], [ended(4, 5), NONE_OF_IT, listed([box(4)]), listed([box(3)])])

    def test_after_a_second_page_without_any(self):
        rows = run(*self.FIRST, put(box(3), FORCED), ASK, *self.ASKED)
        self.assertEqual(rows[4:], [ended()] + [NONE_OF_IT] * 3)

    def test_after_one_that_wants_more(self):
        rows = run(*self.FIRST, put(insertion(5, box(3))), ASK, *self.ASKED)
        self.assertEqual(rows[4:], [MORE] + self.TOLD)

    def test_after_one_that_is_refused(self):
        deep = nested(8)
        rows = run(*self.FIRST, put(insertion(5, box(3)), box(1), deep, FORCED), ASK, *self.ASKED)
        self.assertEqual(rows[4:], [[-6]] + self.TOLD)

    def test_the_other_calls_leave_them(self):
        others = [put(insertion(5, box(3))), [7], [8], class_told(3, NONE, 0, 0, 1), style(3), put(insertion(3, box(9)))]
        self.assertEqual(run(*self.FIRST, *others, *self.ASKED)[9:], self.TOLD)
