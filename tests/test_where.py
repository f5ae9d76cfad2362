"""The call where: at which thing the page would end that would be asked now."""

import unittest

from tests.build import ASK, COLUMN, COLUMN_END, DROP, END, FORCED, LONGEST, NONE, PAGE, WHERE, adjust, anchor, box
from tests.build import class_told, glue, insertion, kern, last, leaders, left, listed, mark, penalty, put, rule, run
from tests.build import style
from tests.test_put_left import nested

MORE_WANTED = [-4]
RULED = leaders(NONE, rule())


class WhereTest(unittest.TestCase):
    def ends_at(self, place, *things, told=(), height=100, top=NONE):
        """Where the page ends, that telling it changes nothing, and that ask ends it there."""
        calls = [style(height, 0, top), *told, put(*things)]
        self.assertEqual(run(*calls, WHERE, WHERE, COLUMN, PAGE)[-4:], [[place], [place], listed(things), [0]])
        self.assertEqual(run(*calls, WHERE, ASK, PAGE)[-2:], run(*calls, ASK, PAGE)[-2:])
        at = things[place]
        asked, shown, left_over = run(*calls, ASK, PAGE, COLUMN)[-3:]
        self.assertEqual(asked[:2], [1, at[1] if at[0] == 4 else 10000])
        tail = listed([penalty(10000) if at[0] == 4 else at, *things[place + 1:]])[1:]
        self.assertEqual(left_over[-len(tail):], tail)

    def more_wanted(self, *things, height=100):
        calls = [style(height), put(*things)]
        self.assertEqual(run(*calls, WHERE, COLUMN, WHERE, ASK)[2:], [MORE_WANTED, listed(things), MORE_WANTED, [0]])

    def test_at_glue(self):
        self.ends_at(3, box(40), glue(20), box(40), glue(20), box(40), glue(20))
        self.ends_at(1, box(40), RULED, box(80), RULED)

    def test_at_a_kern(self):
        self.ends_at(1, box(60), kern(5), glue(5), box(60), FORCED)
        self.ends_at(1, box(60), kern(5), RULED, box(60), FORCED)

    def test_at_a_penalty(self):
        self.ends_at(1, box(50), penalty(50), box(60), FORCED)
        self.ends_at(3, box(50), penalty(50), box(10), penalty(9999), box(60), FORCED)

    def test_at_a_forced_one(self):
        self.ends_at(1, box(50), FORCED, box(10), FORCED)
        self.ends_at(2, box(50), box(50), penalty(-LONGEST))

    def test_at_the_first_break_if_all_is_beyond(self):
        for thing in (glue(1), RULED, penalty(3), FORCED):
            self.ends_at(3, box(50), penalty(10000), box(60), thing, box(1), FORCED)
        self.ends_at(1, box(101), kern(1), glue(1), FORCED)

    def test_at_the_least_of_several(self):
        # By a stretch of 100 at the top: 50 fit into 100 by 12, 60 by 6.
        top = [0, 100, 0, 0, 0]
        self.ends_at(1, box(50), penalty(0), box(10), penalty(7), box(100), penalty(1), top=top)
        self.ends_at(3, box(50), penalty(0), box(10), penalty(6), box(100), penalty(1), top=top)

    def test_it_counts_what_is_dropped_and_what_has_no_size(self):
        self.ends_at(5, glue(3), kern(4), mark(1), FORCED, box(1), FORCED)
        self.ends_at(4, anchor(1), adjust(), box(1), insertion(3, box(1)), FORCED)

    def test_with_insertions(self):
        self.ends_at(4, box(50), penalty(0), insertion(3, box(20)), box(30), penalty(0), box(1), FORCED)
        self.ends_at(1, box(50), penalty(0), insertion(3, box(90), cost=10000), penalty(0), box(1), FORCED)
        self.ends_at(3, box(50), penalty(0), insertion(3, box(90), cost=9999), penalty(0), box(51), FORCED)
        self.ends_at(2, insertion(3, box(700)), insertion(3, box(1)), glue(), FORCED, told=[class_told(3, NONE, 1000, 10)])

    def test_more_wanted(self):
        self.assertEqual(run(WHERE, style(100), WHERE), [MORE_WANTED, [0], MORE_WANTED])
        self.more_wanted(box(10), box(300), box(10))
        self.more_wanted(box(10), glue(5), box(10), penalty(-9999), box(75), penalty(0))
        self.more_wanted(glue(500), kern(500), glue(), FORCED, penalty(0), RULED, mark(1), glue(500), FORCED)
        self.more_wanted(box(101), kern(0))
        self.more_wanted(box(101), kern(0), box(1))
        self.more_wanted(box(101), penalty(10000), glue())

    def test_as_the_column_changes(self):
        rows = run(style(100), put(box(60), kern(2)), WHERE, put(glue()), WHERE, style(50), WHERE, left(mark(1), box(1)), WHERE,
                   DROP, WHERE)
        self.assertEqual(rows[2::2], [MORE_WANTED, MORE_WANTED, [1], [3], MORE_WANTED])
        rows = run(style(100), put(box(60)), WHERE, END, WHERE)
        self.assertEqual([rows[2], rows[4]], [MORE_WANTED, [2]])

    def test_behind_a_page(self):
        things = [box(60), glue(1), box(60), glue(3), insertion(3, box(60)), mark(2)]
        calls = [style(100), put(*things), END]
        rows = run(*calls, WHERE, ASK, WHERE, ASK, COLUMN, WHERE, END, WHERE)
        # What's left begins with the glue; then with the insertion that waits.
        self.assertEqual([rows[3], rows[5]], [[1], [6]])
        self.assertEqual(rows[7], listed([insertion(3, box(60)), penalty(10000)]))
        self.assertEqual([rows[8], rows[10]], [MORE_WANTED, [3]])
        self.assertEqual(listed(things[1:] + COLUMN_END), last(*calls, ASK, COLUMN))

    def test_it_tells_where_although_the_page_could_not_be_told(self):
        rows = run(style(100), put(box(1), nested(8), FORCED), WHERE, ASK, WHERE)
        self.assertEqual(rows[2:], [[2], [-6], [2]])

    def test_more_behind_the_column_changes_nothing(self):
        first = [box(60), glue(5), box(60), glue()]
        for more in ([box(4)], [FORCED], [kern(-100), box(1), FORCED], [insertion(1, box(9))], [mark(3)], []):
            self.assertEqual(last(style(100), put(*first), put(*more), WHERE), [1])
