"""What a table refuses, by which error, and that a refusal leaves no trace."""

import unittest

from markbox.errors import BadMark, BadSize, BadThing
from markbox.tables import Table
from samples import FAR, Refusing, at_any_place

ROWS = [[0, 1], [1, 2], [2]]


def answers(table):
    """All that a table of ROWS tells, as one value."""
    told = [table.many, [list(row) for row in table.rows]]
    for numbers in ([], [0], [1], [2], [0, 1], [0, 2], [1, 2], [0, 1, 2]):
        told.append(table.things_with(numbers))
        told.append(table.marks_of(numbers))
        told.append(table.closed(numbers))
    return told


class BadSizes(Refusing):
    def test_fewer_than_no_marks(self):
        for many in (-1, -2, -8, -100, -(10 ** 5000)):
            self.assertRefused(BadSize, Table, many, [])
            self.assertRefused(BadSize, Table, many, [[], []])

    def test_more_than_eight_marks(self):
        for many in (9, 10, 12, 100, 10 ** 5000):
            self.assertRefused(BadSize, Table, many, [])
            self.assertRefused(BadSize, Table, many, [[0, 8]])

    def test_more_than_twelve_things(self):
        for count in (13, 14, 20, 100):
            self.assertRefused(BadSize, Table, 0, [[] for _ in range(count)])
            self.assertRefused(BadSize, Table, 8, [[0, 7] for _ in range(count)])

    def test_too_many_of_both(self):
        self.assertRefused(BadSize, Table, 9, [[] for _ in range(13)])

    def test_the_limits_themselves_stand(self):
        self.assertEqual(Table(0, []).many, 0)
        self.assertEqual(Table(8, []).many, 8)
        self.assertEqual(len(Table(0, [[]] * 12).rows), 12)
        self.assertEqual(len(Table(8, [[7]] * 12).rows), 12)


class BadRows(Refusing):
    def test_a_bad_number_at_any_place_of_any_row(self):
        for bad in (-1, -3, 3, 4) + FAR:
            for place in range(len(ROWS)):
                for row in at_any_place(ROWS[place], bad):
                    rows = ROWS[:place] + [row] + ROWS[place + 1:]
                    self.assertRefused(BadMark, Table, 3, rows)

    def test_no_number_is_a_mark_where_there_are_none(self):
        for bad in (0, -1, 1):
            self.assertRefused(BadMark, Table, 0, [[bad]])
            self.assertRefused(BadMark, Table, 0, [[], [], [bad]])

    def test_the_edges_for_each_count_of_marks(self):
        for many in range(9):
            self.assertRefused(BadMark, Table, many, [[many]])
            self.assertRefused(BadMark, Table, many, [[-1]])
            if many:
                self.assertRefused(BadMark, Table, many, [[many - 1, -many]])
                self.assertEqual(Table(many, [[many - 1, 0]]).many, many)

    def test_in_the_last_of_twelve_rows(self):
        rows = [[0, 7] for _ in range(11)]
        self.assertRefused(BadMark, Table, 8, rows + [[0, 7, 8]])
        self.assertRefused(BadMark, Table, 8, rows + [[-1, 0, 7]])

    def test_bad_numbers_in_several_rows(self):
        self.assertRefused(BadMark, Table, 2, [[2], [-1], [0, 1, 99]])


class BothFaults(Refusing):
    def test_size_comes_ahead_of_marks(self):
        self.assertRefused(BadSize, Table, 9, [[9]])
        self.assertRefused(BadSize, Table, 9, [[-1]])
        self.assertRefused(BadSize, Table, -1, [[0]])
        self.assertRefused(BadSize, Table, -1, [[-1]])

    def test_too_many_things_come_ahead_of_marks_in_any_row(self):
        for place in range(13):
            for bad in (-1, 8, 10 ** 5000):
                rows = [[0] for _ in range(13)]
                rows[place] = [0, bad]
                self.assertRefused(BadSize, Table, 8, rows)


class BadAsks(Refusing):
    def setUp(self):
        self.table = Table(3, ROWS)

    def test_marks_that_are_none(self):
        for bad in (-1, -3, 3, 4) + FAR:
            for numbers in ([], [0], [2, 0], [0, 1, 2], [1, 1]):
                for marks in at_any_place(numbers, bad):
                    self.assertRefused(BadMark, self.table.things_with, marks)
                    self.assertRefused(BadMark, self.table.closed, marks)

    def test_things_that_are_none(self):
        for bad in (-1, -3, 3, 4) + FAR:
            for numbers in ([], [0], [2, 0], [0, 1, 2], [1, 1]):
                for things in at_any_place(numbers, bad):
                    self.assertRefused(BadThing, self.table.marks_of, things)

    def test_marks_are_counted_apart_from_things(self):
        table = Table(2, [[], [0], [1], [0, 1]])
        self.assertEqual(table.marks_of([3]), [0, 1])
        for marks in ([2], [3]):
            self.assertRefused(BadMark, table.things_with, marks)
            self.assertRefused(BadMark, table.closed, marks)
        table = Table(4, [[2, 3], [3]])
        self.assertEqual(table.things_with([3]), [0, 1])
        self.assertEqual(table.closed([2]), [2, 3])
        for things in ([2], [3]):
            self.assertRefused(BadThing, table.marks_of, things)

    def test_a_table_without_marks(self):
        table = Table(0, [[], []])
        for bad in (0, 1, -1):
            self.assertRefused(BadMark, table.things_with, [bad])
            self.assertRefused(BadMark, table.closed, [bad])
        for bad in (2, -1):
            self.assertRefused(BadThing, table.marks_of, [bad])

    def test_a_table_without_things(self):
        table = Table(3, [])
        for bad in (0, 1, -1):
            self.assertRefused(BadThing, table.marks_of, [bad])
        for bad in (3, -1):
            self.assertRefused(BadMark, table.things_with, [bad])
            self.assertRefused(BadMark, table.closed, [bad])

    def test_a_table_of_full_size(self):
        table = Table(8, [[0, 7] for _ in range(12)])
        for marks in ([8], [-1], [-8], [0, 7, 8]):
            self.assertRefused(BadMark, table.things_with, marks)
            self.assertRefused(BadMark, table.closed, marks)
        for things in ([12], [-1], [-12], [0, 11, 12]):
            self.assertRefused(BadThing, table.marks_of, things)


class AfterARefusal(Refusing):
    def test_the_table_answers_as_before(self):
        table = Table(3, ROWS)
        before = answers(table)
        for bad in (-1, 3, 10 ** 5000):
            self.assertRefused(BadMark, table.things_with, [0, bad, 1])
            self.assertEqual(answers(table), before)
            self.assertRefused(BadMark, table.closed, [0, bad, 1])
            self.assertEqual(answers(table), before)
            self.assertRefused(BadThing, table.marks_of, [0, bad, 1])
            self.assertEqual(answers(table), before)

    def test_a_refused_table_leaves_another_as_it_was(self):
        table = Table(3, ROWS)
        before = answers(table)
        self.assertRefused(BadSize, Table, 9, ROWS)
        self.assertRefused(BadMark, Table, 2, ROWS)
        self.assertEqual(answers(table), before)

    def test_the_same_fault_is_refused_again(self):
        table = Table(3, ROWS)
        for _ in range(3):
            self.assertRefused(BadMark, table.things_with, [3])
            self.assertRefused(BadMark, table.closed, [3])
            self.assertRefused(BadThing, table.marks_of, [3])
            self.assertRefused(BadMark, Table, 3, [[3]])


if __name__ == "__main__":
    unittest.main()
