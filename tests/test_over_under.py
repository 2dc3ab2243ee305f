"""The box over two and the box under two, and what is no box: point [7]."""

import unittest
from itertools import product

from markbox.boxes import boxes, over, steps, under
from markbox.errors import NoBox
from markbox.tables import Table
from samples import (
    FAR,
    POND,
    Refusing,
    Told,
    at_any_place,
    every_closed_family,
    full_size_tables,
    rows_of_family,
    sized_tables,
    small_tables,
    subsets,
)


def with_just(listed, part, numbers):
    """The boxes of a list of which this part has just these numbers."""
    return [box for box in listed if set(box[part]) == numbers]


def answers(table):
    """All that a table tells of its boxes, as one value."""
    listed = boxes(table)
    told = [listed, steps(table)]
    for one, other in product(listed, repeat=2):
        told.append((over(table, one, other), under(table, one, other)))
    return told


class Ordinary(Told):
    def setUp(self):
        self.table = Table(7, POND)

    def assertBoth(self, one, other, box_over, box_under):
        for pair in ((one, other), (other, one)):
            self.assertTold(over(self.table, *pair), box_over)
            self.assertTold(under(self.table, *pair), box_under)

    def test_two_of_which_none_lies_over_the_other(self):
        one, other = ([0, 1, 2], [0, 5]), ([2, 3, 4], [1])
        self.assertBoth(one, other, ([0, 1, 2, 3, 4], []), ([2], [0, 1, 5, 6]))
        one, other = ([2], [0, 1, 5, 6]), ([3], [0, 1, 2, 3])
        self.assertBoth(one, other, ([2, 3], [0, 1]), ([], [0, 1, 2, 3, 4, 5, 6]))

    def test_the_box_over_has_things_that_none_of_both_has(self):
        one, other = ([1, 2], [0, 5, 6]), ([3], [0, 1, 2, 3])
        self.assertBoth(one, other, ([0, 1, 2, 3], [0]), ([], [0, 1, 2, 3, 4, 5, 6]))

    def test_the_box_under_has_marks_that_none_of_both_has(self):
        one, other = ([0, 1, 2, 3], [0]), ([3, 4], [1, 2])
        self.assertBoth(one, other, ([0, 1, 2, 3, 4], []), ([3], [0, 1, 2, 3]))

    def test_one_lies_over_the_other(self):
        one, other = ([0, 1, 2], [0, 5]), ([2], [0, 1, 5, 6])
        self.assertBoth(one, other, one, other)

    def test_twice_the_same(self):
        for box in boxes(self.table):
            self.assertBoth(box, box, box, box)
            self.assertBoth(box, (list(box[0]), list(box[1])), box, box)

    def test_the_kinds_of_values(self):
        one, other = ([0, 1, 2], [0, 5]), ([2, 3, 4], [1])
        self.assertPairs([over(self.table, one, other), under(self.table, one, other)])

    def test_the_arguments_by_name_and_the_place_of_the_functions(self):
        named = {"table": self.table, "one": ([0, 1, 2], [0, 5]), "other": ([2, 3, 4], [1])}
        self.assertTold(over(**named), ([0, 1, 2, 3, 4], []))
        self.assertTold(under(**named), ([2], [0, 1, 5, 6]))
        self.assertEqual(over.__module__, "markbox.boxes")
        self.assertEqual(under.__module__, "markbox.boxes")


class Edges(Told):
    def test_one_box_alone(self):
        for many, rows in ((0, []), (0, [[], []]), (0, [[]] * 12), (3, []), (8, []), (2, [[0, 1]])):
            table = Table(many, rows)
            box = (list(range(len(rows))), list(range(many)))
            self.assertTold(over(table, box, box), box)
            self.assertTold(under(table, box, box), box)

    def test_nothing_in_common(self):
        table = Table(2, [[0], [1]])
        self.assertTold(over(table, ([0], [0]), ([1], [1])), ([0, 1], []))
        self.assertTold(under(table, ([0], [0]), ([1], [1])), ([], [0, 1]))

    def test_a_mark_that_all_things_have_and_a_thing_that_has_all_marks(self):
        table = Table(3, [[0, 2], [1, 2], [0, 1, 2]])
        self.assertTold(over(table, ([0, 2], [0, 2]), ([1, 2], [1, 2])), ([0, 1, 2], [2]))
        self.assertTold(under(table, ([0, 2], [0, 2]), ([1, 2], [1, 2])), ([2], [0, 1, 2]))


class AgainstTheWords(Told):
    def check(self, many, rows):
        table = Table(many, rows)
        listed = boxes(table)
        for one, other in product(listed, repeat=2):
            told_over, told_under = over(table, one, other), under(table, one, other)
            self.assertEqual([told_over], with_just(listed, 1, set(one[1]) & set(other[1])))
            self.assertEqual([told_under], with_just(listed, 0, set(one[0]) & set(other[0])))

    def test_every_small_table(self):
        for many, rows in small_tables():
            self.check(many, rows)

    def test_tables_of_each_size(self):
        for many, rows in sized_tables():
            if len(boxes(Table(many, rows))) <= 40:
                self.check(many, rows)

    def test_tables_of_full_size(self):
        for many, rows in list(full_size_tables())[1:]:
            self.check(many, rows)

    def test_every_set_of_marks_is_closed(self):
        self.check(5, [[mark for mark in range(5) if mark != k] for k in range(5)])

    def test_no_box_over_both_lies_lower_and_none_under_both_higher(self):
        for family in list(every_closed_family(4))[::20]:
            table = Table(4, rows_of_family(family))
            listed = boxes(table)
            for one, other in product(listed, repeat=2):
                low, high = set(under(table, one, other)[0]), set(over(table, one, other)[0])
                self.assertLessEqual(low, set(one[0]) & set(other[0]))
                self.assertGreaterEqual(high, set(one[0]) | set(other[0]))
                for things in [set(things) for things, _ in listed]:
                    if things <= set(one[0]) and things <= set(other[0]):
                        self.assertLessEqual(things, low)
                    if things >= set(one[0]) and things >= set(other[0]):
                        self.assertGreaterEqual(things, high)


class NoBoxes(Refusing):
    def assertNoBox(self, table, wrong, right):
        """The wrong pair is refused, as the first and as the second."""
        for call in (over, under):
            self.assertRefused(NoBox, call, table, wrong, right)
            self.assertRefused(NoBox, call, table, right, wrong)
            self.assertRefused(NoBox, call, table, wrong, wrong)

    def assertAllNoBoxes(self, table, wrongs):
        listed = boxes(table)
        for wrong in wrongs:
            if wrong not in listed:
                for right in (listed[0], listed[len(listed) // 2], listed[-1]):
                    self.assertNoBox(table, wrong, right)

    def test_a_thing_or_a_mark_too_many_or_missing(self):
        table, right = Table(7, POND), ([3, 4], [1, 2])
        for wrong in (
            ([2, 3, 4], [1, 2]), ([3, 4], [0, 1, 2]), ([3], [1, 2]), ([4], [1, 2]),
            ([3, 4], [1]), ([3, 4], [2]), ([], [1, 2]), ([3, 4], []), ([], []),
        ):
            self.assertNoBox(table, wrong, right)
            self.assertNoBox(table, wrong, ([4], [1, 2, 4]))

    def test_every_other_pair_of_sets(self):
        for many, rows in small_tables():
            table = Table(many, rows)
            listed = boxes(table)
            for wrong in product(subsets(len(rows)), subsets(many)):
                if wrong not in listed:
                    self.assertNoBox(table, wrong, listed[-1])

    def test_the_parts_of_two_boxes(self):
        table = Table(7, POND)
        self.assertAllNoBoxes(table, [(one[0], other[1]) for one, other in product(boxes(table), repeat=2)])

    def test_both_parts_turned_about(self):
        table = Table(7, POND)
        self.assertNoBox(table, ([0, 5], [0, 1, 2]), ([0, 1, 2], [0, 5]))
        self.assertAllNoBoxes(table, [(marks, things) for things, marks in boxes(table)])
        self.assertNoBox(Table(0, [[], []]), ([], [0, 1]), ([0, 1], []))
        self.assertNoBox(Table(2, []), ([0, 1], []), ([], [0, 1]))

    def test_a_number_that_is_no_thing_or_no_mark(self):
        table = Table(7, POND)
        for bad in (-1, -2, -5, -7, 5, 6, 7, 8) + FAR:
            for things, marks in boxes(table):
                wrongs = [(more, marks) for more in at_any_place(things, bad)]
                wrongs.extend((things, more) for more in at_any_place(marks, bad))
                self.assertAllNoBoxes(table, wrongs)

    def test_just_a_number_that_is_no_thing_or_no_mark(self):
        for many, rows in ((0, []), (0, [[]]), (1, []), (2, [[0], [1]])):
            table = Table(many, rows)
            for bad in (-1, 2, 3) + FAR:
                self.assertAllNoBoxes(table, [([bad], []), ([], [bad]), ([bad], [bad])])

    def test_a_number_more_than_once(self):
        table = Table(7, POND)
        for things, marks in boxes(table):
            twice = [(sorted(things + [thing]), marks) for thing in things]
            twice.extend((things, sorted(marks + [mark])) for mark in marks)
            self.assertAllNoBoxes(table, twice + [(things * 2, marks), (things, marks * 2)])

    def test_numbers_that_do_not_rise(self):
        table = Table(7, POND)
        for things, marks in boxes(table):
            self.assertAllNoBoxes(table, [(things[::-1], marks), (things, marks[::-1])])
            self.assertAllNoBoxes(table, [(things[1:] + things[:1], marks), (things, marks[1:] + marks[:1])])

    def test_the_box_of_another_table(self):
        table, other = Table(3, [[0], [1, 2]]), Table(3, [[0], [1]])
        self.assertEqual(over(other, ([1], [1]), ([1], [1])), ([1], [1]))
        self.assertNoBox(table, ([1], [1]), ([1], [1, 2]))
        self.assertNoBox(other, ([1], [1, 2]), ([1], [1]))

    def test_tables_without_marks_or_without_things(self):
        self.assertNoBox(Table(0, []), ([0], []), ([], []))
        self.assertNoBox(Table(0, []), ([], [0]), ([], []))
        self.assertNoBox(Table(0, [[], []]), ([], []), ([0, 1], []))
        self.assertNoBox(Table(0, [[], []]), ([0], []), ([0, 1], []))
        self.assertNoBox(Table(2, []), ([], []), ([], [0, 1]))
        self.assertNoBox(Table(2, []), ([], [0]), ([], [0, 1]))
        self.assertNoBox(Table(2, []), ([0], [0, 1]), ([], [0, 1]))

    def test_the_table_answers_behind_a_refusal_as_before(self):
        table = Table(7, POND)
        before = answers(table)
        for wrong in (([3], [1, 2]), ([4, 3], [1, 2]), ([3, 4], [1, 1, 2]), ([3, 4], [1, 2, 7]), ([-1], [])):
            for _ in range(2):
                self.assertNoBox(table, wrong, ([3, 4], [1, 2]))
            self.assertEqual(answers(table), before)


if __name__ == "__main__":
    unittest.main()
