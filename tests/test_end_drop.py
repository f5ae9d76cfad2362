"""The calls end and drop: the column's end, and the column emptied."""

import unittest

from tests.build import ASK, COLUMN, COLUMN_END, DROP, END, FORCED, MORE, NONE, PAGE, WHERE, adjust, anchor, box
from tests.build import class_told, cost_at, disc, glue, glyph, insertion, kern, last, leaders, left, listed, mark
from tests.build import page_row, penalty, put, rule, run, style, things_of

OTHERS = [mark(1), anchor(2), glyph(3, 4, 5, 6), kern(7), glue(8), leaders(NONE, rule()), penalty(9), FORCED, adjust(box(1)),
          disc([box(1)], [rule()], [insertion(1)])]


class EndTest(unittest.TestCase):
    def test_with_a_box_a_rule_or_an_insertion(self):
        for thing in (box(1), rule(), insertion(3, box(1)), insertion(3)):
            for things in ([thing], OTHERS + [thing], [thing] + OTHERS, OTHERS + [thing] + OTHERS):
                rows = run(put(*things), END, COLUMN)
                self.assertEqual(rows[1:], [[1], listed(things + COLUMN_END)])

    def test_the_numbers_of_the_column_s_end(self):
        self.assertEqual(last(put(rule()), END, COLUMN), [3, 5, 0, 0, 0, 2, 0, 65536, 1, 0, 0, 4, -10000])

    def test_without_one(self):
        for things in [[thing] for thing in OTHERS] + [OTHERS]:
            self.assertEqual(run(put(*things), END, COLUMN)[1:], [[0], listed(things)])

    def test_of_an_empty_column(self):
        self.assertEqual(run(END, COLUMN, END), [[0], [0], [0]])
        self.assertEqual(run(put(box(1)), DROP, END, COLUMN)[2:], [[0], [0]])

    def test_again(self):
        rows = run(put(box(1)), END, END, COLUMN)
        self.assertEqual(rows[1:], [[1], [1], listed([box(1)] + COLUMN_END + COLUMN_END)])

    def test_what_is_put_then_comes_behind_it(self):
        rows = run(put(box(1)), END, put(box(2)), left(box(3)), COLUMN)
        self.assertEqual(rows[4], listed([box(3), box(1)] + COLUMN_END + [box(2)]))

    def test_the_last_page_s_penalty_is_left_and_is_no_end_again(self):
        rows = run(style(100), put(box(1)), END, ASK, COLUMN, END, ASK)
        self.assertEqual(rows[3:], [[1, -10000, -1, -1, -1], listed([penalty(10000)]), [0], MORE])


class EndKeptTest(unittest.TestCase):
    def things(self, numbers):
        """A rule, and anchors to so many numbers; a glyph of five makes them even."""
        things = [rule()] + [glyph()] * ((numbers + 1) % 2)
        things += [anchor(0)] * ((numbers - len(listed(things))) // 2)
        self.assertEqual(len(listed(things)), numbers)
        return things

    def test_2000_numbers_can_be_kept(self):
        for numbers in (1991, 1992):
            things = self.things(numbers)
            self.assertEqual(run(put(*things), END, COLUMN)[1:], [[1], listed(things + COLUMN_END)])

    def test_2001_numbers_cannot(self):
        for numbers in (1993, 1994, 1999, 2000):
            things = self.things(numbers)
            rows = run(style(100), put(*things), END, COLUMN, END, WHERE, ASK)
            self.assertEqual(rows[2:], [[-6], listed(things), [-6], [-4], MORE])

    def test_where_nothing_comes_nothing_is_refused(self):
        things = self.things(2000)[1:] + [anchor(0)] * 2
        self.assertEqual(len(listed(things)), 2000)
        self.assertEqual(run(put(*things), END, COLUMN)[1:], [[0], listed(things)])

    def test_what_a_page_took_makes_room(self):
        things = [box(1), FORCED, rule()] + [anchor(0)] * 991
        rows = run(style(100), put(*things), END, ASK, END)
        self.assertEqual([rows[2], rows[4]], [[-6], [1]])


class LastPageTest(unittest.TestCase):
    def test_it_is_ended_and_filled(self):
        rows = run(style(100), put(box(30), glue(10), box(20)), ASK, END, ASK, PAGE, ASK)
        self.assertEqual([rows[2], rows[3], rows[4]], [MORE, [1], [1, -10000, -1, -1, -1]])
        self.assertEqual(rows[5], page_row(0, 100, 0, (1, 40, 65536), glue(), box(30), glue(10), box(20), COLUMN_END[0]))
        self.assertEqual(rows[6], MORE)

    def test_a_page_before_it_may_end_first(self):
        rows = run(style(100), put(box(60), glue(10), box(60)), END, ASK, PAGE, ASK, PAGE, COLUMN)
        self.assertEqual(rows[3], [1, 10000, -1, -1, -1])
        self.assertEqual(rows[4], page_row(0, 100, 0, (0, 0, 1), glue(), box(60)))
        self.assertEqual(rows[5], [1, -10000, -1, -1, -1])
        self.assertEqual(rows[6], page_row(0, 100, 0, (1, 40, 65536), glue(), box(60), COLUMN_END[0]))
        self.assertEqual(rows[7], listed([penalty(10000)]))

    def test_what_waits_then_comes_by_another_end(self):
        note = insertion(3, box(60))
        rows = run(style(100), put(box(60), note), END, ASK, COLUMN, ASK, END, ASK, things_of(3), COLUMN, END)
        self.assertEqual(rows[3:5], [[1, -10000, -1, -1, -1], listed([note, penalty(10000)])])
        self.assertEqual(rows[5:8], [MORE, [1], [1, -10000, -1, -1, -1, 3]])
        self.assertEqual(rows[8:], [listed([box(60)]), listed([penalty(10000)]), [0]])


class DropTest(unittest.TestCase):
    def test_how_many_things_there_were(self):
        for things in ([], [box(1)], [kern(1), adjust(kern(2), kern(3)), insertion(3, box(1), box(2))], OTHERS):
            self.assertEqual(run(put(*things), DROP, COLUMN, DROP)[1:], [[len(things)], [0], [0]])

    def test_of_all_that_came(self):
        self.assertEqual(last(put(box(1), box(2)), left(kern(1)), END, DROP), [5])

    def test_of_what_a_page_left(self):
        rows = run(style(100), put(box(60), insertion(3, box(60)), FORCED, box(1), kern(2)), ASK, DROP, COLUMN)
        self.assertEqual(rows[3:], [[4], [0]])

    def test_no_page_can_be_asked_of_it(self):
        rows = run(style(100), put(box(60), FORCED), DROP, ASK, WHERE, cost_at(0), END, PAGE)
        self.assertEqual(rows[3:], [MORE, [-4], [-4], [0], [0]])

    def test_what_is_put_then_is_all_there_is(self):
        rows = run(style(100), put(box(60), glue(), box(60)), DROP, put(box(1)), left(box(2)), COLUMN, END, ASK, PAGE)
        self.assertEqual(rows[5], listed([box(2), box(1)]))
        self.assertEqual(rows[8], page_row(0, 100, 0, (1, 97, 65536), glue(), box(2), box(1), COLUMN_END[0]))

    def test_it_makes_room(self):
        full = [anchor(0)] * 999
        self.assertEqual(run(put(*full), put(anchor(1)), DROP, put(*full))[1:], [[-6], [999], [999]])

    def test_style_and_classes_stay(self):
        told = [style(50, 3, [20, 7, 1, 9, 2]), class_told(3, [4, 0, 0, 0, 0], 2000, 6), put(box(1)), DROP]
        rows = run(*told, put(insertion(3, box(5)), box(5, 8), insertion(3, box(2)), FORCED), ASK, PAGE, COLUMN)
        # 50 less a skip of 4 and twice 5; the second is more than 6 allow.
        self.assertEqual(rows[6], page_row(0, 36, 3, (1, 11, 7), glue(15, 7, 1, 9, 2), box(5, 8)))
        self.assertEqual(rows[7], listed([insertion(3, box(2)), penalty(10000)]))

    def test_the_last_page_and_its_marks_stay(self):
        first = [style(100), put(mark(4), box(1), insertion(3, box(2)), FORCED, mark(9), box(1)), ASK]
        page = last(*first, PAGE)
        rows = run(*first, DROP, PAGE, things_of(3), put(box(1), FORCED), ASK)
        self.assertEqual(rows[3:6], [[3], page, listed([box(2)])])
        self.assertEqual(rows[7], [1, -10000, 4, 4, 4])
