"""Which box lies right under which: point [6]."""

import unittest

from markbox.boxes import boxes, steps
from markbox.tables import Table
from samples import POND, Told, every_closed_family, many_tables, rows_of_family

NESTED = [list(range(k)) for k in range(9)]


def steps_by_words(listed):
    """Point [6], tried over every pair of places and every place between."""
    things = [frozenset(things) for things, _ in listed]
    found = []
    for k, low in enumerate(things):
        for at, high in enumerate(things):
            if low < high and not any(low < between < high for between in things):
                found.append((k, at))
    return found


class Ordinary(Told):
    def test_all_steps_of_a_table(self):
        # The places are those of the list of boxes in test_boxes.py.
        wanted = [
            (1, 0), (2, 0), (3, 1), (3, 2), (4, 1), (5, 2), (6, 4), (7, 5),
            (8, 3), (8, 5), (9, 3), (9, 6), (10, 7), (10, 8), (10, 9),
        ]
        self.assertTold(steps(Table(7, POND)), wanted)

    def test_the_kinds_of_values(self):
        told = steps(Table(7, POND))
        self.assertIs(type(told), list)
        for pair in told:
            self.assertIs(type(pair), tuple)
            self.assertEqual([type(place) for place in pair], [int, int])

    def test_boxes_that_lie_one_under_the_other(self):
        self.assertTold(steps(Table(8, NESTED)), [(k + 1, k) for k in range(8)])
        self.assertTold(steps(Table(8, NESTED[::-1])), [(k + 1, k) for k in range(8)])

    def test_no_step_skips_a_box_between(self):
        self.assertTold(steps(Table(2, [[], [0], [0, 1]])), [(1, 0), (2, 1)])
        self.assertTold(steps(Table(2, [[], [0, 1]])), [(1, 0)])

    def test_steps_over_boxes_of_several_sizes(self):
        # A box of one mark and a chain of two boxes between the same two.
        rows = [[0], [1], [1, 2]]
        self.assertEqual([marks for _, marks in boxes(Table(4, rows))], [[], [0], [1], [1, 2], [0, 1, 2, 3]])
        self.assertTold(steps(Table(4, rows)), [(1, 0), (2, 0), (3, 2), (4, 1), (4, 3)])

    def test_a_box_without_things_lies_under(self):
        self.assertTold(steps(Table(2, [[0]])), [(1, 0)])

    def test_the_argument_by_name_and_the_place_of_the_function(self):
        self.assertTold(steps(table=Table(1, [[], [0]])), [(1, 0)])
        self.assertEqual(steps.__module__, "markbox.boxes")


class Edges(Told):
    def test_one_box_alone(self):
        for many, rows in ((0, []), (0, [[]]), (0, [[]] * 12), (1, []), (8, []), (1, [[0]]), (3, [[0, 1, 2]] * 12)):
            table = Table(many, rows)
            self.assertEqual(len(boxes(table)), 1)
            self.assertTold(steps(table), [])

    def test_two_boxes(self):
        for many, rows in ((1, [[]]), (8, [[]] * 12), (3, [[], [0, 1, 2]])):
            self.assertTold(steps(Table(many, rows)), [(1, 0)])

    def test_every_set_of_marks_is_closed(self):
        for many in range(9):
            table = Table(many, [[mark for mark in range(many) if mark != k] for k in range(many)])
            listed = boxes(table)
            wanted = []
            for k, (_, marks) in enumerate(listed):
                for at, (_, fewer) in enumerate(listed):
                    if len(fewer) == len(marks) - 1 and set(fewer) < set(marks):
                        wanted.append((k, at))
            self.assertEqual(len(wanted), many * 2 ** many // 2)
            self.assertTold(steps(table), wanted)


class AgainstTheWords(Told):
    def check(self, many, rows):
        table = Table(many, rows)
        told = steps(table)
        self.assertTold(told, steps_by_words(boxes(table)))
        self.assertEqual(told, sorted(set(told)))

    def test_tables_of_each_size(self):
        for many, rows in many_tables():
            self.check(many, rows)

    def test_each_family_of_four_marks(self):
        for family in every_closed_family(4):
            self.check(4, rows_of_family(family))


if __name__ == "__main__":
    unittest.main()
