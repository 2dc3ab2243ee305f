"""All boxes of a table, and their order: points [4] and [5]."""

import unittest
from itertools import permutations

from markbox.boxes import boxes
from markbox.tables import Table
from samples import (
    POND,
    Told,
    boxes_by_words,
    every_closed_family,
    many_tables,
    marks_by_words,
    mixed,
    rows_of_family,
    small_tables,
    subsets,
    things_by_words,
)


class Ordinary(Told):
    def test_all_boxes_of_a_table(self):
        wanted = [
            ([0, 1, 2, 3, 4], []),
            ([0, 1, 2, 3], [0]),
            ([2, 3, 4], [1]),
            ([2, 3], [0, 1]),
            ([0, 1, 2], [0, 5]),
            ([3, 4], [1, 2]),
            ([1, 2], [0, 5, 6]),
            ([4], [1, 2, 4]),
            ([3], [0, 1, 2, 3]),
            ([2], [0, 1, 5, 6]),
            ([], [0, 1, 2, 3, 4, 5, 6]),
        ]
        self.assertTold(boxes(Table(7, POND)), wanted)

    def test_the_kinds_of_values(self):
        for many, rows in ((7, POND), (0, []), (3, []), (0, [[], []])):
            self.assertPairs(boxes(Table(many, rows)))

    def test_fewer_marks_come_first_even_where_their_list_is_greater(self):
        marks = [marks for _, marks in boxes(Table(4, [[3], [0, 1], [2, 3], [1, 3]]))]
        self.assertEqual(marks, [[], [1], [3], [0, 1], [1, 3], [2, 3], [0, 1, 2, 3]])

    def test_as_many_marks_stand_as_lists(self):
        rows = [[1, 2], [0, 3], [2, 3], [0, 1], [1, 3], [0, 2]]
        marks = [marks for _, marks in boxes(Table(4, rows)) if len(marks) == 2]
        self.assertEqual(marks, [[0, 1], [0, 2], [0, 3], [1, 2], [1, 3], [2, 3]])

    def test_the_things_do_not_order(self):
        wanted = [([0, 1], []), ([1], [0]), ([0], [1]), ([], [0, 1])]
        self.assertTold(boxes(Table(2, [[1], [0]])), wanted)
        wanted = [([0, 1], []), ([0], [0]), ([1], [1]), ([], [0, 1])]
        self.assertTold(boxes(Table(2, [[0], [1]])), wanted)

    def test_rows_in_any_order_with_numbers_more_than_once(self):
        wanted = boxes(Table(4, [[0, 1, 3], [1, 2]]))
        self.assertEqual(len(wanted), 4)
        for row in permutations([0, 1, 3, 1]):
            self.assertTold(boxes(Table(4, [list(row), [2, 1, 2]])), wanted)

    def test_the_argument_by_name_and_the_place_of_the_function(self):
        self.assertTold(boxes(table=Table(1, [[0]])), [([0], [0])])
        self.assertEqual(boxes.__module__, "markbox.boxes")


class Edges(Told):
    def test_no_marks_and_no_things(self):
        self.assertTold(boxes(Table(0, [])), [([], [])])

    def test_no_marks(self):
        for count in range(1, 13):
            self.assertTold(boxes(Table(0, [[]] * count)), [(list(range(count)), [])])

    def test_no_things(self):
        for many in range(1, 9):
            self.assertTold(boxes(Table(many, [])), [([], list(range(many)))])

    def test_two_things_with_the_same_marks(self):
        wanted = [([0, 1, 2], [1]), ([0, 2], [0, 1]), ([1], [1, 2]), ([], [0, 1, 2])]
        self.assertTold(boxes(Table(3, [[0, 1], [1, 2], [1, 0]])), wanted)

    def test_a_mark_that_no_thing_has(self):
        wanted = [([0, 1], [0]), ([1], [0, 2]), ([], [0, 1, 2])]
        self.assertTold(boxes(Table(3, [[0], [0, 2]])), wanted)

    def test_a_mark_that_all_things_have(self):
        wanted = [([0, 1, 2], [1]), ([0, 1], [0, 1]), ([2], [1, 2]), ([], [0, 1, 2])]
        self.assertTold(boxes(Table(3, [[0, 1], [0, 1], [1, 2]])), wanted)

    def test_all_things_have_all_marks(self):
        for many in range(9):
            every = list(range(many))
            self.assertTold(boxes(Table(many, [every] * 12)), [(list(range(12)), every)])

    def test_no_thing_has_a_mark(self):
        for many in range(1, 9):
            wanted = [(list(range(12)), []), ([], list(range(many)))]
            self.assertTold(boxes(Table(many, [[]] * 12)), wanted)

    def test_a_thing_with_all_marks_is_in_each_box(self):
        wanted = [([0, 1], []), ([1], [0, 1, 2])]
        self.assertTold(boxes(Table(3, [[], [0, 1, 2]])), wanted)

    def test_every_set_of_marks_is_closed(self):
        rows = [[mark for mark in range(8) if mark != k] for k in range(8)]
        listed = boxes(Table(8, rows))
        self.assertEqual(len(listed), 256)
        for things, marks in listed:
            self.assertEqual(sorted(things + marks), list(range(8)))


class AgainstTheWords(Told):
    def test_tables_of_each_size(self):
        for many, rows in many_tables():
            table = Table(many, [mixed(row) for row in rows])
            self.assertTold(boxes(table), boxes_by_words(many, rows))

    def test_just_the_closed_sets_of_each_family_of_four_marks(self):
        for family in every_closed_family(4):
            listed = boxes(Table(4, rows_of_family(family)))
            self.assertEqual(len(listed), len(family))
            self.assertEqual({frozenset(marks) for _, marks in listed}, family)

    def test_every_pair_of_sets_is_tried(self):
        for many, rows in small_tables():
            listed = boxes(Table(many, rows))
            for things in subsets(len(rows)):
                for marks in subsets(many):
                    with_marks = things == things_by_words(rows, marks)
                    is_box = with_marks and marks == marks_by_words(many, rows, things)
                    self.assertEqual(listed.count((things, marks)), int(is_box))


if __name__ == "__main__":
    unittest.main()
