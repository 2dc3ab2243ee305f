"""The rules of a table, one for each knot: points [10], [11] and [12]."""

import unittest
from itertools import permutations, product

from markbox.rules import fewest, grown, holds, met
from markbox.tables import Table
from samples import (
    POND,
    Told,
    by_size,
    every_closed_family,
    many_tables,
    met_by_words,
    mixed,
    rows_of_family,
    rules_by_words,
    sized_tables,
    subsets,
)

EACH_LACKS_ONE = [[mark for mark in range(8) if mark != k] for k in range(8)]


def fewest_counts(many):
    """For each family that some rules leave, how many rules that takes.

    A family of sets is written as a number: a bit for each set of marks.
    """
    every = subsets(many)
    left_by_one = set()
    for rule in product(every, repeat=2):
        left_by_one.add(sum(1 << at for at, marks in enumerate(every) if met_by_words(rule, marks)))
    counts = {(1 << len(every)) - 1: 0}
    newest = list(counts)
    while newest:
        reached = {family & left for family in newest for left in left_by_one} - set(counts)
        count = counts[newest[0]] + 1
        counts.update((family, count) for family in reached)
        newest = list(reached)
    return counts


class Ordinary(Told):
    def test_the_rules_of_a_table(self):
        wanted = [
            ([2], [1]),
            ([3], [0, 1, 2]),
            ([4], [1, 2]),
            ([5], [0]),
            ([6], [0, 5]),
            ([0, 1, 2], [3]),
            ([0, 1, 5], [6]),
            ([0, 1, 2, 3, 4], [5, 6]),
            ([0, 1, 2, 3, 5, 6], [4]),
        ]
        self.assertTold(fewest(Table(7, POND)), wanted)

    def test_two_marks_that_stand_together(self):
        rules = [([0], [1]), ([1], [0])]
        self.assertTold(fewest(Table(2, [[0, 1], []])), rules)
        self.assertTold(fewest(Table(3, [[0, 1], [2], [0, 1, 2], []])), rules)

    def test_a_chain_of_marks(self):
        rows = [[], [3], [2, 3], [1, 2, 3], [0, 1, 2, 3]]
        self.assertTold(fewest(Table(4, rows)), [([0], [1, 2, 3]), ([1], [2, 3]), ([2], [3])])

    def test_a_knot_has_the_closures_of_smaller_knots(self):
        # [0, 2] is not closed, but lacks what the knot [0] brings: no knot.
        rows = [[0, 1], [1, 2], [0, 1, 2, 3], []]
        wanted = [([0], [1]), ([2], [1]), ([3], [0, 1, 2]), ([0, 1, 2], [3])]
        self.assertTold(fewest(Table(4, rows)), wanted)

    def test_smaller_ones_come_first_even_where_their_list_is_greater(self):
        rows = [[0], [1], [2], [3, 2], [0, 1, 2, 3]]
        ahead = [ahead for ahead, _ in fewest(Table(4, rows))]
        self.assertEqual(ahead, [[3], [0, 1], [0, 2], [1, 2]])

    def test_as_many_ahead_stand_as_lists(self):
        rows = [[0], [1], [2], [3]]
        wanted = [(list(pair), [k for k in range(4) if k not in pair]) for pair in
                  ((0, 1), (0, 2), (0, 3), (1, 2), (1, 3), (2, 3))]
        self.assertTold(fewest(Table(4, rows)), wanted)

    def test_the_kinds_of_values(self):
        for many, rows in ((7, POND), (3, []), (2, [[1], [1]])):
            self.assertPairs(fewest(Table(many, rows)))

    def test_rows_in_any_order_with_numbers_more_than_once(self):
        wanted = fewest(Table(4, [[0, 1, 3], [1, 2]]))
        for row in permutations([0, 1, 3, 1]):
            self.assertTold(fewest(Table(4, [list(row), [2, 1, 2]])), wanted)

    def test_the_argument_by_name_and_the_place_of_the_function(self):
        self.assertTold(fewest(table=Table(1, [[0]])), [([], [0])])
        self.assertEqual(fewest.__module__, "markbox.rules")


class Edges(Told):
    def test_a_table_without_rules(self):
        self.assertTold(fewest(Table(8, EACH_LACKS_ONE)), [])
        self.assertTold(fewest(Table(8, EACH_LACKS_ONE + [[], [0], [7], [3, 4]])), [])
        self.assertTold(fewest(Table(1, [[]])), [])
        self.assertTold(fewest(Table(2, [[0], [1]])), [])

    def test_no_marks(self):
        for count in range(13):
            self.assertTold(fewest(Table(0, [[]] * count)), [])

    def test_no_things(self):
        for many in range(1, 9):
            self.assertTold(fewest(Table(many, [])), [([], list(range(many)))])

    def test_all_things_have_all_marks(self):
        for many in range(1, 9):
            every = list(range(many))
            self.assertTold(fewest(Table(many, [every] * 12)), [([], every)])

    def test_no_thing_has_a_mark(self):
        for many in range(2, 9):
            wanted = [([k], [mark for mark in range(many) if mark != k]) for k in range(many)]
            self.assertTold(fewest(Table(many, [[]] * 12)), wanted)

    def test_a_mark_that_all_things_have(self):
        self.assertTold(fewest(Table(3, [[0, 1], [1, 2], [1]])), [([], [1])])

    def test_a_mark_that_no_thing_has(self):
        self.assertTold(fewest(Table(3, [[0], [2], [0, 2]])), [([1], [0, 2])])

    def test_a_rule_behind_nothing_ahead_is_in_the_greater_knots(self):
        wanted = [([], [1]), ([0, 1], [2]), ([1, 2], [0])]
        self.assertTold(fewest(Table(3, [[1], [0, 1, 2]])), wanted)


class AgainstTheWords(Told):
    def check(self, many, rows):
        table = Table(many, [mixed(row) for row in rows])
        rules = fewest(table)
        self.assertTold(rules, rules_by_words(many, rows))
        knots = [ahead for ahead, _ in rules]
        self.assertEqual(knots, by_size(knots))
        for marks in subsets(many):
            closed = table.closed(marks)
            self.assertEqual(all(met(rule, marks) for rule in rules), closed == marks)
            self.assertEqual(grown(rules, marks), closed)
        for rule in rules:
            self.assertTrue(holds(table, rule))

    def test_tables_of_each_size(self):
        for many, rows in many_tables():
            self.check(many, rows)


class Fewest(Told):
    def test_no_fewer_rules_leave_just_the_closed_sets(self):
        for many in range(5):
            counts = fewest_counts(many)
            families = every_closed_family(many)
            self.assertEqual(len(families), len(counts))
            for family in families:
                rows = rows_of_family(family)
                self.assertLessEqual(len(rows), 12)
                rules = fewest(Table(many, rows))
                self.assertTold(rules, rules_by_words(many, rows))
                left = sum(1 << at for at, marks in enumerate(subsets(many)) if frozenset(marks) in family)
                self.assertEqual(len(rules), counts[left])

    def test_without_any_one_rule_another_set_meets_the_others(self):
        for many, rows in sized_tables():
            table = Table(many, rows)
            rules = fewest(table)
            for place, (ahead, _) in enumerate(rules):
                others = rules[:place] + rules[place + 1:]
                self.assertTrue(all(met(rule, ahead) for rule in others))
                self.assertNotEqual(table.closed(ahead), ahead)


if __name__ == "__main__":
    unittest.main()
