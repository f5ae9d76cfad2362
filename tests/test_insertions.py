"""The call ask with insertions: they fit, are cut, wait, come late or whole, or find their class closed."""

import unittest

from tests.build import ASK, FORCED, LONGEST, MORE, NONE, PAGE, adjust, anchor, box, class_told, column, glue, glyph
from tests.build import insertion, kern, last, mark, page_row, penalty, pressed, put, rule, run, shares, style

LATE = class_told(3, NONE, 1000, LONGEST, 1)


def outcome(*things, told=(), height=100, max_depth=0, top=NONE):
    """What's answered, the page's height, each class's things, what's left."""
    calls = [style(height, max_depth, top), *told, put(*things), ASK]
    press = pressed(*calls)
    return last(*calls), last(*calls, PAGE)[4], shares(press), column(press)


def ended(number, *classes):
    return [1, number, -1, -1, -1] + list(classes)


def end(*things, told=(), height=100, max_depth=0, top=NONE):
    return outcome(*things, told=told, height=height, max_depth=max_depth, top=top)[0]


def class_of_things(*things, told=(), max_depth=0):
    return outcome(*things, told=told, max_depth=max_depth)[2]


def goal(*things, told=(), max_depth=0):
    return outcome(*things, told=told, max_depth=max_depth)[1]


class FitsTest(unittest.TestCase):
    def test_it_goes_on_the_page_and_takes_room(self):
        note = [box(20, 6), kern(4)]
        things = [box(40), insertion(3, *note), box(30), penalty(7), box(1), penalty(8)]
        self.assertEqual(outcome(*things), (ended(7, 3), 70, {3: note}, [penalty(10000), box(1), penalty(8)]))

    def test_it_is_no_thing_of_the_page_itself(self):
        row = last(style(100), put(box(40), insertion(3, box(20)), mark(1), FORCED), ASK, PAGE)
        self.assertEqual(row, page_row(0, 80, 0, (0, 0, 1), glue(), box(40), mark(1)))

    def test_just_and_just_not(self):
        # The depth of the last box counts, too.
        self.assertEqual(class_of_things(box(60, 10), insertion(3, box(30)), FORCED, max_depth=10), {3: [box(30)]})
        self.assertEqual(class_of_things(box(60, 10), insertion(3, box(31)), FORCED, max_depth=10), {})

    def test_height_and_depth_count_whatever_its_depth_may_be(self):
        for depth in (-1, 0, 5, 50):
            self.assertEqual(goal(box(60), insertion(3, box(20, 10), depth=depth), FORCED), 70)

    def test_factor(self):
        half = [class_told(3, NONE, 500)]
        self.assertEqual(goal(box(1), insertion(3, box(30)), FORCED, told=half), 85)
        self.assertEqual(goal(box(1), insertion(3, box(31)), FORCED, told=half), 85)
        self.assertEqual(goal(box(1), insertion(3, box(-31)), FORCED, told=half), 116)
        self.assertEqual(class_of_things(box(85), insertion(3, box(31)), FORCED, told=half), {3: [box(31)]})
        self.assertEqual(class_of_things(box(85), insertion(3, box(32)), FORCED, told=half), {})
        none = [class_told(3, NONE, 0)]
        self.assertEqual(goal(box(100), insertion(3, box(5000)), FORCED, told=none), 100)
        self.assertEqual(goal(insertion(3, box(2)), FORCED, told=[class_told(3, NONE, 1000000)]), 100 - 2000)

    def test_most(self):
        told = [class_told(3, NONE, 1000, 50)]
        first = insertion(3, box(30))
        self.assertEqual(class_of_things(box(1), first, insertion(3, box(20)), FORCED, told=told), {3: [box(30), box(20)]})
        self.assertEqual(class_of_things(box(1), first, insertion(3, box(21)), FORCED, told=told), {3: [box(30)]})
        self.assertEqual(class_of_things(box(1), first, insertion(4, box(21)), FORCED, told=told), {3: [box(30)], 4: [box(21)]})
        self.assertEqual(class_of_things(box(1), insertion(3, box(-5)), insertion(3, box(55)), FORCED, told=told),
                         {3: [box(-5), box(55)]})

    def test_the_classes_rise(self):
        things = [box(1)] + [insertion(number, box(1)) for number in (200, 7, 255, 0, 7)]
        self.assertEqual(end(*things, FORCED), ended(-10000, 0, 7, 200, 255))

    def test_things_of_several_come_in_order(self):
        self.assertEqual(class_of_things(insertion(3, box(1), mark(1)), box(9), insertion(3, box(2)), insertion(3, anchor(3)), FORCED),
                         {3: [box(1), mark(1), box(2), anchor(3)]})

    def test_behind_the_break_it_is_left(self):
        note = insertion(3, box(10))
        things = [box(60), glue(3), note, box(60), FORCED]
        self.assertEqual(outcome(*things), (ended(10000), 100, {}, things[1:]))
        rows = run(style(100), put(*things), ASK, ASK, PAGE)
        self.assertEqual(rows[3], ended(-10000, 3))
        self.assertEqual(rows[4], page_row(0, 90, 0, (0, 0, 1), glue(), box(60)))


class SkipTest(unittest.TestCase):
    SKIP = [5, 0, 0, 0, 0]

    def test_once_for_each_class(self):
        told = [class_told(3, self.SKIP), class_told(4, [7, 0, 0, 0, 0])]
        three = insertion(3, box(10))
        self.assertEqual(goal(three, FORCED, told=told), 85)
        self.assertEqual(goal(three, three, FORCED, told=told), 75)
        self.assertEqual(goal(three, insertion(4, box(1)), three, FORCED, told=told), 67)

    def test_it_counts_for_whether_it_fits(self):
        told = [class_told(3, self.SKIP)]
        self.assertEqual(class_of_things(box(60), insertion(3, box(35)), FORCED, told=told), {3: [box(35)]})
        self.assertEqual(class_of_things(box(60), insertion(3, box(36)), FORCED, told=told), {})

    def test_a_skip_below_0_makes_room(self):
        told = [class_told(3, [-5, 0, 0, 0, 0])]
        self.assertEqual(class_of_things(box(60), insertion(3, box(45)), FORCED, told=told), {3: [box(45)]})

    def test_stretch(self):
        things = [insertion(3, box(10)), box(10), penalty(0), box(80), penalty(1), box(1), penalty(2)]
        self.assertEqual(end(*things), ended(1, 3))
        for order in (1, 2, 3):
            self.assertEqual(end(*things, told=[class_told(3, [0, 1, order, 0, 0])]), ended(0, 3))
        # 80 by a stretch of 80 is 100.
        even = [insertion(3, box(10)), box(10), penalty(0), box(80), penalty(100), box(1), penalty(2)]
        self.assertEqual(end(*even, told=[class_told(3, [0, 80, 0, 0, 0])]), ended(100, 3))
        even[4] = penalty(101)
        self.assertEqual(end(*even, told=[class_told(3, [0, 80, 0, 0, 0])]), ended(0, 3))

    def test_shrink_counts_as_of_order_0(self):
        things = [insertion(3, box(10)), box(50), penalty(500), box(45), penalty(0), box(6), penalty(2)]
        self.assertEqual(end(*things), ended(500, 3))
        for order in (0, 1, 2, 3):
            self.assertEqual(end(*things, told=[class_told(3, [0, 0, 0, 10, order])]), ended(0, 3))

    def test_if_it_waits_it_is_not_done(self):
        told = [class_told(3, [50, 1, 3, 90, 0])]
        waits = insertion(3, box(10))
        self.assertEqual(outcome(box(60), waits, FORCED, told=told), (ended(-10000), 100, {}, [waits, penalty(10000)]))
        # Neither stretch nor shrink.
        self.assertEqual(end(box(60), waits, penalty(5), box(40), penalty(6), box(1), penalty(7), told=told), ended(6))

    def test_if_it_is_cut_it_is_done(self):
        told = [class_told(3, [10, 0, 0, 0, 0])]
        note = insertion(3, box(20), penalty(0), box(40))
        self.assertEqual(outcome(box(50), note, FORCED, told=told)[1:3], (70, {3: [box(20)]}))

    def test_if_it_comes_whole_it_is_done(self):
        told = [class_told(3, [10, 0, 0, 0, 0])]
        self.assertEqual(goal(insertion(3, box(300)), FORCED, told=told), 100 - 10 - 300)

    def test_again_as_long_as_no_thing_of_it_is_there(self):
        told = [class_told(3, self.SKIP)]
        self.assertEqual(outcome(insertion(3), box(1), FORCED, told=told)[:3], (ended(-10000), 95, {}))
        self.assertEqual(goal(insertion(3), insertion(3, box(10)), box(1), FORCED, told=told), 80)
        self.assertEqual(goal(insertion(3, mark(1)), insertion(3, box(10)), box(1), FORCED, told=told), 85)


class CutTest(unittest.TestCase):
    def test_upper_part_and_rest(self):
        five = [9, 8, 1, 7, 2]
        note = insertion(3, box(20), glue(5), box(15), glue(5), box(30), mark(4), five=five, depth=6, cost=77)
        rest = insertion(3, glue(0, 8, 1, 7, 2), box(30), mark(4), five=five, depth=6, cost=77)
        self.assertEqual(outcome(box(60), note, box(0), FORCED),
                         (ended(-10000, 3), 60, {3: [box(20), glue(5), box(15)]}, [rest, penalty(10000)]))

    def test_the_rest_comes_on_the_next_page(self):
        note = insertion(3, box(20), glue(5), box(15), glue(5), box(30), five=[33, 0, 0, 0, 0])
        calls = [style(100), put(box(60), note, FORCED, box(10), FORCED), ASK, ASK]
        self.assertEqual(run(*calls)[3], ended(-10000, 3))
        self.assertEqual(shares(pressed(*calls)), {3: [glue(3), box(30)]})
        self.assertEqual(last(*calls, PAGE), page_row(0, 67, 0, (0, 0, 1), penalty(10000), glue(), box(10)))

    def test_cut_again_and_again(self):
        note = insertion(3, *[thing for number in range(5) for thing in (box(40, 0, number), penalty(number))])
        calls = [style(50), put(box(1), note, FORCED, box(1), FORCED, box(1), FORCED, box(1), FORCED, box(1), FORCED)]
        told = []
        for turn in range(5):
            calls.append(ASK)
            self.assertEqual(last(*calls), ended(-10000, 3))
            told.append(shares(pressed(*calls))[3])
        self.assertEqual(told[0], [box(40)])
        for number in (1, 2, 3):
            self.assertEqual(told[number], [glue(), box(40, 0, number)])
        self.assertEqual(told[4], [glue(), box(40, 0, 4), penalty(4)])

    def test_the_room_by_the_page(self):
        self.assertEqual(class_of_things(box(80), insertion(3, box(20), penalty(0), box(1)), FORCED), {3: [box(20)]})
        self.assertEqual(class_of_things(box(80), insertion(3, box(21), penalty(0), box(1)), FORCED), {})
        # The last box's depth takes room.
        self.assertEqual(class_of_things(box(70, 10), insertion(3, box(20), penalty(0), box(1)), FORCED, max_depth=10), {3: [box(20)]})
        self.assertEqual(class_of_things(box(70, 10), insertion(3, box(21), penalty(0), box(1)), FORCED, max_depth=10), {})

    def test_the_room_by_the_factor(self):
        half = [class_told(3, NONE, 500)]
        self.assertEqual(outcome(box(90), insertion(3, box(20), penalty(0), box(9)), FORCED, told=half)[1:3], (90, {3: [box(20)]}))
        self.assertEqual(class_of_things(box(90), insertion(3, box(21), penalty(0), box(9)), FORCED, told=half), {})
        threefold = [class_told(3, NONE, 3000)]
        self.assertEqual(outcome(box(90), insertion(3, box(3), penalty(0), box(9)), FORCED, told=threefold)[1:3], (91, {3: [box(3)]}))
        self.assertEqual(class_of_things(box(90), insertion(3, box(4), penalty(0), box(9)), FORCED, told=threefold), {})

    def test_the_upper_part_by_the_factor_is_rounded_down(self):
        half = [class_told(3, NONE, 500)]
        self.assertEqual(goal(box(85), insertion(3, box(29), penalty(0), box(9)), FORCED, told=half), 86)

    def test_the_room_by_most(self):
        told = [class_told(3, NONE, 1000, 50)]
        first = insertion(3, box(30))
        self.assertEqual(class_of_things(first, insertion(3, box(20), penalty(0), box(1)), FORCED, told=told), {3: [box(30), box(20)]})
        self.assertEqual(class_of_things(first, insertion(3, box(21), penalty(0), box(1)), FORCED, told=told), {3: [box(30)]})
        # Of both the lesser.
        self.assertEqual(class_of_things(box(85), insertion(3, box(15), penalty(0), box(60)), FORCED, told=told), {3: [box(15)]})
        self.assertEqual(class_of_things(box(85), insertion(3, box(16), penalty(0), box(60)), FORCED, told=told), {})

    def test_without_factor_most_alone_is_the_room(self):
        told = [class_told(3, NONE, 0, 30)]
        self.assertEqual(outcome(box(99), insertion(3, box(30), penalty(0), box(20)), FORCED, told=told)[1:3], (100, {3: [box(30)]}))
        self.assertEqual(class_of_things(box(99), insertion(3, box(31), penalty(0), box(20)), FORCED, told=told), {})
        # Even on a page that's too full already.
        self.assertEqual(class_of_things(box(101), insertion(3, box(30), penalty(0), box(20)), FORCED, told=told), {3: [box(30)]})

    def test_its_depth(self):
        def note(depth):
            return insertion(3, box(20, 5), penalty(0), box(9), depth=depth)
        for depth, parts in ((-1, 1), (5, 1), (4, 0), (0, 0), (LONGEST, 1)):
            self.assertEqual(len(class_of_things(box(80), note(depth), FORCED)), parts)
        # The upper part's depth takes room as its height.
        self.assertEqual(goal(box(80), note(-1), FORCED), 75)

    def test_no_room(self):
        note = insertion(3, rule(0, 0), penalty(0), box(9))
        waits = insertion(3, rule(0, -5), penalty(0), box(9))
        self.assertEqual(class_of_things(box(99), note, FORCED), {3: [rule(0, 0)]})
        self.assertEqual(class_of_things(box(100), note, FORCED), {})
        self.assertEqual(class_of_things(box(102), waits, FORCED), {})

    def test_first_break_too_full(self):
        self.assertEqual(class_of_things(box(80), insertion(3, box(25), penalty(0), kern(-9), FORCED, box(9)), FORCED), {})

    def test_nothing_to_be_seen_in_the_upper_part(self):
        self.assertEqual(class_of_things(box(80), insertion(3, mark(1), kern(1), FORCED, box(90)), FORCED), {})

    def test_an_insertion_in_the_upper_part(self):
        inner = insertion(9, box(4))
        self.assertEqual(class_of_things(box(80), insertion(3, inner, FORCED, box(90)), FORCED), {3: [inner]})

    def test_no_rest(self):
        for behind in ([kern(90)], [kern(90), mark(1)], [glyph(1, 2, 3, 4), kern(90)]):
            note = insertion(3, box(10), penalty(-1), *behind)
            self.assertEqual(outcome(box(80), note, FORCED), (ended(-10000), 100, {}, [note, penalty(10000)]))

    def test_a_column_that_would_fit_by_its_shrink_is_not_cut_at_its_end(self):
        note = insertion(3, box(10), glue(0, 0, 0, 5, 0), box(15))
        self.assertEqual(class_of_things(box(78), note, FORCED), {})

    def test_its_class_is_closed(self):
        first = insertion(3, box(20), penalty(0), box(40))
        second = insertion(3, rule(0, 0))
        rest = insertion(3, glue(), box(40))
        self.assertEqual(outcome(box(50), first, second, FORCED), (ended(-10000, 3), 80, {3: [box(20)]}, [rest, second, penalty(10000)]))

    def test_other_classes_are_not(self):
        first = insertion(3, box(20), penalty(0), box(40))
        self.assertEqual(class_of_things(box(50), first, insertion(4, box(5)), FORCED), {3: [box(20)], 4: [box(5)]})

    def test_the_penalty_at_the_break_costs(self):
        def things(number):
            return [box(50), penalty(1), insertion(3, box(25), penalty(6000), box(60)), insertion(4, box(25), penalty(number), box(60)),
                    penalty(2), box(1), penalty(3)]
        self.assertEqual(end(*things(3999)), ended(2, 3, 4))
        self.assertEqual(end(*things(4000)), ended(1))

    def test_a_forced_break_costs_less(self):
        # q is -10,000 behind the cut: the break at penalty 30 costs less than the one that's forced.
        note = insertion(3, box(50), FORCED, box(60))
        self.assertEqual(end(box(50), note, penalty(-1), FORCED), ended(-1, 3))
        self.assertEqual(end(box(50), note, penalty(0), FORCED), ended(-10000, 3))

    def test_glue_at_the_break_costs_nothing(self):
        note = insertion(3, box(50), glue(), box(60))
        self.assertEqual(end(box(50), penalty(1), note, penalty(0), box(1), penalty(2)), ended(0, 3))


class WaitTest(unittest.TestCase):
    # By a stretch of 100 at the top: 50 fit into 100 by 12, 60 by 6.
    TOP = [0, 100, 0, 0, 0]

    def test_it_comes_first_on_the_next_page(self):
        note = insertion(3, box(60))
        for at in (glue(3), penalty(5)):
            again = penalty(10000) if at[0] == 4 else at
            things = [box(50), note, box(20), at, box(60), FORCED]
            self.assertEqual(outcome(*things)[3], [note, again, box(60), FORCED])
        things = [box(50), note, box(20), kern(4), glue(3), box(60), FORCED]
        self.assertEqual(outcome(*things)[3], [note, kern(4), glue(3), box(60), FORCED])

    def test_several_wait_in_order(self):
        notes = [insertion(number, box(60, 0, number)) for number in (3, 9, 3, 4)]
        things = [box(50), notes[0], mark(1), notes[1], box(10), notes[2], notes[3], FORCED, box(1), FORCED]
        self.assertEqual(outcome(*things)[3], notes + [penalty(10000), box(1), FORCED])

    def test_only_those_before_the_break(self):
        notes = [insertion(3, box(60, 0, number)) for number in (0, 1)]
        things = [box(50), notes[0], penalty(5), notes[1], box(60), FORCED]
        self.assertEqual(outcome(*things)[3], [notes[0], penalty(10000), notes[1], box(60), FORCED])

    def test_a_closed_class_waits_even_if_it_would_fit(self):
        first = insertion(3, box(60))
        second = insertion(3, box(1))
        self.assertEqual(outcome(box(50), first, second, FORCED), (ended(-10000), 100, {}, [first, second, penalty(10000)]))

    def test_a_closed_class_is_not_cut(self):
        first = insertion(3, box(60))
        second = insertion(3, box(20), penalty(0), box(60))
        self.assertEqual(class_of_things(box(50), second, FORCED), {3: [box(20)]})
        self.assertEqual(outcome(box(50), first, second, FORCED), (ended(-10000), 100, {}, [first, second, penalty(10000)]))
        third = insertion(3, glue(), box(60))
        self.assertEqual(outcome(box(50), second, second, FORCED),
                         (ended(-10000, 3), 80, {3: [box(20)]}, [third, second, penalty(10000)]))

    def test_what_came_before_it_was_closed_stays(self):
        things = [box(50), insertion(3, box(1)), insertion(3, box(60)), insertion(3, box(2)), FORCED]
        self.assertEqual(outcome(*things), (ended(-10000, 3), 99, {3: [box(1)]}, [things[2], things[3], penalty(10000)]))

    def test_on_the_next_page_it_is_open_again(self):
        calls = [style(100), put(box(50), insertion(3, box(60)), insertion(3, box(1)), FORCED, box(2), FORCED), ASK, ASK, PAGE]
        self.assertEqual(run(*calls)[3], ended(-10000, 3))
        self.assertEqual(shares(pressed(*calls)), {3: [box(60), box(1)]})
        self.assertEqual(run(*calls)[4][4], 39)

    def test_its_cost(self):
        def things(cost):
            return [box(50), penalty(0), insertion(3, box(90), cost=cost), box(10), penalty(1), box(100), penalty(2)]
        self.assertEqual(end(*things(5), top=self.TOP), ended(1))
        self.assertEqual(end(*things(6), top=self.TOP), ended(0))

    def test_its_cost_counts_for_each(self):
        notes = [insertion(3, box(90), cost=3), insertion(3, box(1), cost=2), insertion(4, box(90), cost=0)]
        self.assertEqual(end(box(50), penalty(0), *notes, box(10), penalty(1), box(100), penalty(2), top=self.TOP), ended(1))
        notes[2] = insertion(4, box(90), cost=1)
        self.assertEqual(end(box(50), penalty(0), *notes, box(10), penalty(1), box(100), penalty(2), top=self.TOP), ended(0))

    def test_a_cost_of_10000_is_beyond(self):
        def things(cost, number):
            return [box(50), penalty(0), insertion(3, box(90), cost=cost), box(50), penalty(number), box(1), penalty(2)]
        self.assertEqual(end(*things(9999, 1)), ended(1))
        self.assertEqual(end(*things(10000, 1)), ended(0))
        self.assertEqual(end(*things(10000, -9999)), ended(0))
        self.assertEqual(end(*things(10000, -10000)), ended(-10000))

    def test_beyond_by_cost_at_the_first_break(self):
        note = insertion(3, box(90), cost=10000)
        self.assertEqual(end(box(50), note, penalty(4), box(1), penalty(5)), ended(4))

    def test_a_cost_does_not_count_where_it_fits_worst(self):
        self.assertEqual(end(box(50), penalty(1), insertion(3, box(90), cost=9999), penalty(2), box(51), penalty(3)), ended(2))

    def test_a_cost_below_0(self):
        note = insertion(3, box(90), cost=-20000)
        self.assertEqual(end(box(100), note, penalty(5), FORCED), ended(5))
        note = insertion(3, box(90), cost=-10000)
        self.assertEqual(end(box(100), note, penalty(0), FORCED), ended(-10000))

    def test_what_fits_costs_nothing(self):
        note = insertion(3, box(1), cost=10000)
        self.assertEqual(end(box(50), penalty(1), note, box(49), penalty(2), box(1), penalty(3)), ended(2, 3))
        note = insertion(3, box(10), penalty(0), box(90), cost=10000)
        self.assertEqual(end(box(50), penalty(1), note, box(40), penalty(2), box(1), penalty(3)), ended(2, 3))

    def test_glue_behind_it_is_a_break(self):
        note = insertion(3, box(60))
        things = [box(50), penalty(10000), note, glue(51), penalty(7)]
        self.assertEqual(outcome(*things)[0], ended(10000))
        self.assertEqual(outcome(*things)[3], [note, glue(51), penalty(7)])


class LateTest(unittest.TestCase):
    def test_it_goes_on_the_page_if_it_fits(self):
        self.assertEqual(class_of_things(box(50), insertion(3, box(50)), FORCED, told=[LATE]), {3: [box(50)]})

    def test_it_is_not_cut_but_waits(self):
        note = insertion(3, box(20), penalty(0), box(40))
        self.assertEqual(class_of_things(box(50), note, FORCED), {3: [box(20)]})
        self.assertEqual(outcome(box(50), note, FORCED, told=[LATE]), (ended(-10000), 100, {}, [note, penalty(10000)]))

    def test_it_comes_whole_on_an_empty_page(self):
        note = insertion(3, box(20), penalty(0), box(90))
        self.assertEqual(outcome(note, FORCED, told=[LATE])[1:3], (-10, {3: [box(20), penalty(0), box(90)]}))

    def test_its_class_is_closed_by_waiting(self):
        notes = [insertion(3, box(60)), insertion(3, box(1))]
        self.assertEqual(outcome(box(50), *notes, FORCED, told=[LATE])[3], notes + [penalty(10000)])


class WholeTest(unittest.TestCase):
    BIG = insertion(3, box(300))

    def test_on_an_empty_page(self):
        calls = [style(100), put(self.BIG, FORCED), ASK, PAGE]
        self.assertEqual(run(*calls)[2:], [ended(-10000, 3), page_row(0, -200, 0, (0, 0, 1))])

    def test_the_page_ends_at_the_next_break(self):
        self.assertEqual(end(self.BIG, box(10), box(10), glue(), box(10), FORCED), ended(10000, 3))

    def test_its_class_is_closed(self):
        small = insertion(3, box(-900))
        self.assertEqual(outcome(self.BIG, small, FORCED), (ended(-10000, 3), -200, {3: [box(300)]}, [small, penalty(10000)]))

    def test_other_classes_find_something(self):
        other = insertion(4, box(300))
        self.assertEqual(outcome(self.BIG, other, FORCED), (ended(-10000, 3), -200, {3: [box(300)]}, [other, penalty(10000)]))

    def test_it_waits_if_something_is_there(self):
        for thing in (box(1), rule(), insertion(4, box(1)), insertion(4, mark(1)), insertion(3, box(1))):
            self.assertEqual(outcome(thing, self.BIG, FORCED)[3], [self.BIG, penalty(10000)])

    def test_others_are_nothing(self):
        for thing in (mark(1), anchor(2), glyph(1, 2, 3, 4), adjust(box(1)), glue(5), kern(5), penalty(0), insertion(4)):
            self.assertEqual(class_of_things(thing, self.BIG, FORCED), {3: [box(300)]})

    def test_it_is_cut_rather(self):
        note = insertion(3, box(90), penalty(0), box(90))
        self.assertEqual(outcome(note, FORCED), (ended(-10000, 3), 10, {3: [box(90)]}, [insertion(3, glue(), box(90)), penalty(10000)]))

    def test_its_cost_does_not_count(self):
        told = [class_told(3, NONE, 0, 10)]
        note = insertion(3, box(300), cost=10000)
        self.assertEqual(end(note, box(50), penalty(1), box(50), penalty(2), box(1), penalty(3), told=told), ended(2, 3))

    def test_a_class_that_was_closed_with_nothing_on_the_page_waits(self):
        # The first has no things, and doesn't fit: it comes whole and closes its class.
        empty = insertion(3)
        small = insertion(3, box(1))
        self.assertEqual(outcome(empty, small, FORCED, height=-5)[2:], ({}, [small, penalty(10000)]))


class BegunTest(unittest.TestCase):
    """Behind an insertion nothing is dropped any more, though no box has come."""

    def test_glue_behind_an_insertion(self):
        things = [glue(9), insertion(3, box(10)), glue(5), box(85), penalty(1), box(1), penalty(2)]
        rows = run(style(100), put(*things), ASK, PAGE)
        self.assertEqual(rows[2:], [ended(1, 3), page_row(0, 90, 0, (0, 0, 1), glue(5), glue(), box(85))])

    def test_the_page_may_end_before_any_box(self):
        self.assertEqual(end(insertion(3, box(10)), FORCED), ended(-10000, 3))
        self.assertEqual(end(insertion(3, box(200)), glue(5)), ended(10000, 3))
        self.assertEqual(end(insertion(3, box(200)), kern(5), glue(5)), ended(10000, 3))
        self.assertEqual(last(style(100), put(insertion(3, box(200))), ASK), MORE)

    def test_an_insertion_without_things_begins_it_too(self):
        self.assertEqual(end(insertion(3), FORCED), ended(-10000))

    def test_the_glue_at_the_top_stands_before_the_first_box(self):
        things = [insertion(3, box(10)), kern(2), mark(7), box(5), box(5), FORCED]
        row = last(style(100, 0, [12, 0, 0, 0, 0]), put(*things), ASK, PAGE)
        self.assertEqual(row, page_row(0, 90, 0, (0, 0, 1), kern(2), mark(7), glue(7), box(5), box(5)))
