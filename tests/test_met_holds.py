"""When a set of marks meets a rule, and when a rule holds: point [8]."""

import unittest
from itertools import permutations, product

from markbox.errors import BadMark
from markbox.rules import holds, met
from markbox.tables import Table
from samples import (
    FAR,
    POND,
    Refusing,
    at_any_place,
    full_size_tables,
    met_by_words,
    mixed,
    sized_tables,
    small_tables,
    subsets,
)


def all_rules(many):
    return list(product(subsets(many), repeat=2))


class Met(unittest.TestCase):
    def test_a_mark_ahead_is_lacking(self):
        self.assertIs(met(([0, 1], [2]), [0]), True)
        self.assertIs(met(([0, 1], [2]), [1]), True)
        self.assertIs(met(([0, 1], [2]), []), True)
        self.assertIs(met(([0], [2, 3]), [1, 2]), True)

    def test_all_behind_are_there(self):
        self.assertIs(met(([0, 1], [2, 3]), [0, 1, 2, 3]), True)
        self.assertIs(met(([0], [1]), [0, 1, 2]), True)

    def test_a_mark_ahead_is_lacking_and_all_behind_are_there(self):
        self.assertIs(met(([0], [1]), [1]), True)

    def test_all_ahead_are_there_and_one_behind_is_lacking(self):
        self.assertIs(met(([0, 1], [2, 3]), [0, 1]), False)
        self.assertIs(met(([0, 1], [2, 3]), [0, 1, 2]), False)
        self.assertIs(met(([0, 1], [2, 3]), [0, 1, 3]), False)
        self.assertIs(met(([0], [1]), [0, 2]), False)

    def test_nothing_ahead(self):
        self.assertIs(met(([], [0, 1]), []), False)
        self.assertIs(met(([], [0, 1]), [1]), False)
        self.assertIs(met(([], [0, 1]), [1, 2, 0]), True)

    def test_nothing_behind(self):
        self.assertIs(met(([0, 1], []), []), True)
        self.assertIs(met(([0, 1], []), [0]), True)
        self.assertIs(met(([0, 1], []), [0, 1]), True)

    def test_nothing_ahead_and_nothing_behind(self):
        self.assertIs(met(([], []), []), True)
        self.assertIs(met(([], []), [3]), True)

    def test_the_same_mark_ahead_and_behind(self):
        for marks in ([], [0], [1], [0, 1]):
            self.assertIs(met(([0], [0]), marks), True)
            self.assertIs(met(([0], [0, 1]), marks), marks != [0])

    def test_any_order_and_more_than_once(self):
        for ahead in permutations([0, 4, 4]):
            for behind in permutations([2, 7, 2]):
                rule = (list(ahead), list(behind))
                self.assertIs(met(rule, [7, 4, 7, 0, 2]), True)
                self.assertIs(met(rule, [4, 0, 4]), False)
                self.assertIs(met(rule, [4, 2, 0, 0, 4]), False)
                self.assertIs(met(rule, [4, 4, 4, 1]), True)

    def test_marks_far_beyond_any_table(self):
        far = 10 ** 20
        self.assertIs(met(([far], [far + 1]), [far]), False)
        self.assertIs(met(([far], [far + 1]), [far + 1, far]), True)
        self.assertIs(met(([far], [far + 1]), [far + 1]), True)
        self.assertIs(met(([0], [10 ** 5000]), [0]), False)

    def test_against_the_words(self):
        for rule in all_rules(3):
            for marks in subsets(3):
                wanted = met_by_words(rule, marks)
                self.assertIs(met(rule, marks), wanted)
                self.assertIs(met((mixed(rule[0]), mixed(rule[1])), mixed(marks)), wanted)

    def test_the_arguments_by_name_and_the_place_of_the_function(self):
        self.assertIs(met(rule=([0], [1]), marks=[0]), False)
        self.assertEqual(met.__module__, "markbox.rules")


class Holds(unittest.TestCase):
    def test_in_an_ordinary_table(self):
        table = Table(7, POND)
        for rule in (([6], [0, 5]), ([5], [0]), ([4], [1, 2]), ([3], [0, 1, 2]), ([4, 5], [3]), ([], [])):
            self.assertIs(holds(table, rule), True)
        for rule in (([0], [5]), ([1], [2]), ([0, 1], [5]), ([], [0]), ([6], [0, 1, 5])):
            self.assertIs(holds(table, rule), False)

    def test_any_one_thing_may_break_it(self):
        for count in range(1, 13):
            for place in range(count):
                rows = [[0, 1] if k % 2 else [1] for k in range(count)]
                self.assertIs(holds(Table(3, rows), ([0], [1])), True)
                rows[place] = [0, 2]
                self.assertIs(holds(Table(3, rows), ([0], [1])), False)

    def test_in_a_table_without_things(self):
        for rule in all_rules(3):
            self.assertIs(holds(Table(3, []), rule), True)

    def test_in_a_table_without_marks(self):
        for rows in ([], [[]], [[]] * 12):
            self.assertIs(holds(Table(0, rows), ([], [])), True)

    def test_nothing_ahead_holds_where_all_things_have_those_behind(self):
        table = Table(3, [[0, 1], [1, 2], [1]])
        self.assertIs(holds(table, ([], [1])), True)
        self.assertIs(holds(table, ([], [0])), False)
        self.assertIs(holds(table, ([], [])), True)

    def test_any_order_and_more_than_once(self):
        table = Table(7, POND)
        self.assertIs(holds(table, ([6, 5, 6], [5, 0, 5])), True)
        self.assertIs(holds(table, ([1, 0, 1], [5, 6, 5])), False)

    def test_every_rule_in_every_small_table(self):
        for many, rows in small_tables():
            table = Table(many, rows)
            for rule in all_rules(many):
                self.assertIs(holds(table, rule), all(met_by_words(rule, row) for row in rows))

    def test_in_tables_of_each_size(self):
        for many, rows in sized_tables():
            table = Table(many, rows)
            for ahead, behind in product(subsets(min(many, 2)), subsets(many)[::7]):
                wanted = all(met_by_words((ahead, behind), row) for row in rows)
                self.assertIs(holds(table, (mixed(ahead), mixed(behind))), wanted)

    def test_from_any_marks_to_their_closure(self):
        for many, rows in full_size_tables():
            table = Table(many, rows)
            for marks in subsets(many):
                closure = table.closed(marks)
                self.assertIs(holds(table, (marks, closure)), True)
                for mark in range(many):
                    self.assertIs(holds(table, (marks, [mark])), mark in closure)

    def test_the_arguments_by_name_and_the_place_of_the_function(self):
        self.assertIs(holds(table=Table(2, [[0]]), rule=([0], [1])), False)
        self.assertEqual(holds.__module__, "markbox.rules")


class NoMarks(Refusing):
    def assertBad(self, table, ahead, behind):
        self.assertRefused(BadMark, holds, table, (ahead, behind))

    def test_a_number_that_is_no_mark_ahead_or_behind(self):
        table = Table(3, [[0, 1], [1, 2], [2]])
        for bad in (-1, -3, 3, 4) + FAR:
            for numbers in ([], [0], [2, 0], [0, 1, 2], [1, 1]):
                for marks in at_any_place(numbers, bad):
                    for others in ([], [0], [1, 0, 1], marks):
                        self.assertBad(table, marks, others)
                        self.assertBad(table, others, marks)

    def test_also_where_the_rule_would_be_met_without_it(self):
        table = Table(3, [[0, 1], [0]])
        for bad in (-1, 3, 10 ** 20):
            self.assertBad(table, [2], [bad])
            self.assertBad(table, [2, bad], [0])
            self.assertBad(table, [bad], [])
            self.assertBad(table, [bad], [bad])
            self.assertBad(table, [], [0, bad])
            self.assertBad(table, [bad], [0])

    def test_also_where_a_thing_breaks_the_rule_first(self):
        table = Table(2, [[], [0, 1]])
        self.assertBad(table, [], [0, 2])
        self.assertBad(table, [], [0, -1])

    def test_the_edges_for_each_count_of_marks(self):
        for many in range(9):
            for rows in ([], [list(range(many))], [[]] * 12):
                table = Table(many, rows)
                self.assertBad(table, [many], [])
                self.assertBad(table, [], [many])
                self.assertBad(table, [-1], [])
                self.assertBad(table, [], [-1])
                if many:
                    self.assertIs(holds(table, ([many - 1, 0], [0])), True)

    def test_the_things_are_no_marks(self):
        table = Table(2, [[0]] * 12)
        self.assertBad(table, [11], [])
        self.assertBad(table, [], [11])

    def test_the_table_answers_behind_a_refusal_as_before(self):
        table = Table(3, [[0, 1], [1, 2], [2]])
        before = [holds(table, rule) for rule in all_rules(3)]
        for bad in (-1, 3, 10 ** 5000):
            for _ in range(2):
                self.assertBad(table, [0, bad], [1])
                self.assertBad(table, [0], [bad, 1])
            self.assertEqual([holds(table, rule) for rule in all_rules(3)], before)


if __name__ == "__main__":
    unittest.main()
