"""What a table tells: its fields, and points [1], [2] and [3]."""

import unittest
from itertools import permutations

from markbox.tables import Table
from samples import (
    POND,
    Told,
    full_size_tables,
    marks_by_words,
    mixed,
    small_tables,
    subsets,
    things_by_words,
)


class Fields(Told):
    def test_fields_of_an_ordinary_table(self):
        table = Table(7, POND)
        self.assertEqual(table.many, 7)
        self.assertIs(type(table.rows), list)
        self.assertEqual(len(table.rows), 5)
        for row, wanted in zip(table.rows, POND):
            self.assertTold(row, wanted)

    def test_rows_are_told_rising_and_each_number_once(self):
        table = Table(4, [[3, 1, 3, 0], [2, 2, 2], [], [3, 2, 1, 0, 3, 2, 1, 0]])
        wanted = [[0, 1, 3], [2], [], [0, 1, 2, 3]]
        for row, numbers in zip(table.rows, wanted):
            self.assertTold(row, numbers)
        self.assertEqual(table.rows, wanted)

    def test_every_order_of_a_row(self):
        for row in permutations([0, 1, 1, 4, 7]):
            self.assertEqual(Table(8, [list(row)]).rows, [[0, 1, 4, 7]])

    def test_equal_rows_stay_apart(self):
        self.assertEqual(Table(2, [[0], [0], [0, 0]]).rows, [[0], [0], [0]])

    def test_rows_keep_their_places(self):
        self.assertEqual(Table(3, [[2], [1], [0], []]).rows, [[2], [1], [0], []])

    def test_arguments_by_name(self):
        table = Table(rows=[[1, 0]], many=2)
        self.assertEqual((table.many, table.rows), (2, [[0, 1]]))
        self.assertEqual(table.things_with(marks=[1]), [0])
        self.assertEqual(table.marks_of(things=[0]), [0, 1])
        self.assertEqual(table.closed(marks=[1]), [0, 1])

    def test_class_and_methods_stand_in_the_file(self):
        self.assertEqual(Table.__module__, "markbox.tables")
        for name in ("things_with", "marks_of", "closed"):
            self.assertIn(name, vars(Table))


class Ordinary(Told):
    def setUp(self):
        self.table = Table(7, POND)

    def test_things_with(self):
        self.assertTold(self.table.things_with([0]), [0, 1, 2, 3])
        self.assertTold(self.table.things_with([1]), [2, 3, 4])
        self.assertTold(self.table.things_with([0, 1]), [2, 3])
        self.assertTold(self.table.things_with([4]), [4])

    def test_marks_of(self):
        self.assertTold(self.table.marks_of([0]), [0, 5])
        self.assertTold(self.table.marks_of([1, 2]), [0, 5, 6])
        self.assertTold(self.table.marks_of([2, 3]), [0, 1])
        self.assertTold(self.table.marks_of([3, 4]), [1, 2])

    def test_closed(self):
        self.assertTold(self.table.closed([6]), [0, 5, 6])
        self.assertTold(self.table.closed([5]), [0, 5])
        self.assertTold(self.table.closed([3]), [0, 1, 2, 3])
        self.assertTold(self.table.closed([0, 1]), [0, 1])

    def test_nothing_in_common(self):
        self.assertTold(self.table.things_with([4, 5]), [])
        self.assertTold(self.table.marks_of([0, 4]), [])

    def test_closure_of_marks_that_no_thing_has_together(self):
        self.assertTold(self.table.closed([4, 5]), [0, 1, 2, 3, 4, 5, 6])

    def test_no_marks_are_on_all_things(self):
        self.assertTold(self.table.things_with([]), [0, 1, 2, 3, 4])

    def test_no_things_have_all_marks(self):
        self.assertTold(self.table.marks_of([]), [0, 1, 2, 3, 4, 5, 6])

    def test_all_marks_and_all_things(self):
        self.assertTold(self.table.things_with([0, 1, 2, 3, 4, 5, 6]), [])
        self.assertTold(self.table.marks_of([0, 1, 2, 3, 4]), [])
        self.assertTold(self.table.closed([0, 1, 2, 3, 4, 5, 6]), [0, 1, 2, 3, 4, 5, 6])

    def test_closure_of_no_marks_is_what_all_things_have(self):
        self.assertTold(self.table.closed([]), [])
        self.assertTold(Table(3, [[2, 0], [1, 2], [2]]).closed([]), [2])

    def test_sets_in_any_order_and_numbers_more_than_once(self):
        for marks in permutations([1, 0, 1]):
            self.assertTold(self.table.things_with(list(marks)), [2, 3])
            self.assertTold(self.table.closed(list(marks)), [0, 1])
        for things in permutations([4, 3, 3, 4]):
            self.assertTold(self.table.marks_of(list(things)), [1, 2])

    def test_more_numbers_than_marks_or_things(self):
        self.assertTold(self.table.things_with([1, 0] * 40), [2, 3])
        self.assertTold(self.table.closed([6] * 80), [0, 5, 6])
        self.assertTold(self.table.marks_of([4, 3] * 40), [1, 2])
        self.assertEqual(Table(2, [[1, 0] * 40]).rows, [[0, 1]])


class Edges(Told):
    def test_no_marks_and_no_things(self):
        table = Table(0, [])
        self.assertEqual((table.many, table.rows), (0, []))
        self.assertTold(table.things_with([]), [])
        self.assertTold(table.marks_of([]), [])
        self.assertTold(table.closed([]), [])

    def test_things_without_marks(self):
        table = Table(0, [[] for _ in range(12)])
        self.assertEqual((table.many, table.rows), (0, [[]] * 12))
        self.assertTold(table.things_with([]), list(range(12)))
        self.assertTold(table.marks_of([]), [])
        self.assertTold(table.marks_of([0, 11]), [])
        self.assertTold(table.closed([]), [])

    def test_marks_without_things(self):
        table = Table(8, [])
        self.assertEqual((table.many, table.rows), (8, []))
        self.assertTold(table.things_with([]), [])
        self.assertTold(table.things_with([7]), [])
        self.assertTold(table.marks_of([]), list(range(8)))
        self.assertTold(table.closed([]), list(range(8)))
        self.assertTold(table.closed([3]), list(range(8)))

    def test_eight_marks_and_twelve_things_that_have_all(self):
        table = Table(8, [list(range(8)) for _ in range(12)])
        self.assertEqual((table.many, len(table.rows)), (8, 12))
        self.assertTold(table.things_with(list(range(8))), list(range(12)))
        self.assertTold(table.things_with([]), list(range(12)))
        self.assertTold(table.marks_of(list(range(12))), list(range(8)))
        self.assertTold(table.closed([]), list(range(8)))

    def test_twelve_things_that_have_no_mark(self):
        table = Table(8, [[] for _ in range(12)])
        self.assertTold(table.things_with([]), list(range(12)))
        self.assertTold(table.things_with([7]), [])
        self.assertTold(table.marks_of([11]), [])
        self.assertTold(table.marks_of([]), list(range(8)))
        self.assertTold(table.closed([]), [])
        self.assertTold(table.closed([0]), list(range(8)))

    def test_each_count_of_marks_and_things(self):
        for many in range(9):
            for count in range(13):
                table = Table(many, [list(range(many))] * count)
                self.assertEqual((table.many, len(table.rows)), (many, count))
                self.assertTold(table.marks_of([]), list(range(many)))
                self.assertTold(table.things_with([]), list(range(count)))

    def test_last_mark_and_last_thing(self):
        table = Table(8, [[] for _ in range(11)] + [[7]])
        self.assertTold(table.things_with([7]), [11])
        self.assertTold(table.marks_of([11]), [7])
        self.assertTold(table.closed([7]), [7])


class AgainstTheWords(Told):
    def check_all_sets(self, many, rows, kept):
        table = Table(many, [mixed(row) for row in rows])
        self.assertEqual(table.rows, rows)
        for marks in subsets(many):
            things = things_by_words(rows, marks)
            self.assertTold(table.things_with(mixed(marks)), things)
            self.assertTold(table.closed(mixed(marks)), marks_by_words(many, rows, things))
        for things in kept:
            self.assertTold(table.marks_of(mixed(things)), marks_by_words(many, rows, things))

    def test_every_small_table(self):
        for many, rows in small_tables():
            with self.subTest(many=many, rows=rows):
                self.check_all_sets(many, rows, subsets(len(rows)))

    def test_tables_of_full_size(self):
        every = subsets(12)
        for many, rows in full_size_tables():
            with self.subTest(rows=rows):
                self.check_all_sets(many, rows, every)

    def test_the_closure_is_closed_and_has_the_marks(self):
        for many, rows in full_size_tables():
            table = Table(many, rows)
            for marks in subsets(many):
                closure = table.closed(marks)
                self.assertLessEqual(set(marks), set(closure))
                self.assertTold(table.closed(closure), closure)


if __name__ == "__main__":
    unittest.main()
