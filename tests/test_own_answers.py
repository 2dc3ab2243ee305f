"""Boxes, steps and rules: what is handed in stays, what is told is one's own."""

import unittest
from copy import deepcopy

from markbox.boxes import boxes, over, steps, under
from markbox.errors import MarkError
from markbox.rules import fewest, grown, holds, met
from markbox.tables import Table
from samples import lists_in, mixed, spoil

ROWS = [[3, 1, 3], [2, 1, 0], [1], [3, 2, 1, 0, 0], [1, 3]]
TABLES = ((4, ROWS), (0, []), (3, []), (0, [[], []]), (3, [[0], [1], [2]]), (2, [[1, 0], [0, 1]]), (2, [[], []]))
RULES = (([], [1]), ([3, 0, 3], [2]), ([2], [0, 2, 0]), ([0, 5], []), ([2, 0], [10 ** 20, 5]), ([], []))
SETS = ([], [0], [3, 1], [1, 3, 1], [2, 0, 2], [3, 2, 1, 0], [10 ** 20, 5, 5])


def made(number=0):
    many, rows = TABLES[number]
    return Table(many, deepcopy(rows))


def listings():
    return [boxes, steps, fewest]


def told_of(table):
    """All that the functions tell of a table, each value as it was told."""
    told = [ask(table) for ask in listings()]
    listed = boxes(table)
    for one in listed:
        for other in listed:
            told.append(over(table, deepcopy(one), deepcopy(other)))
            told.append(under(table, deepcopy(one), deepcopy(other)))
    return told


def told_of_rules():
    """All that is told of the rules without a table, as it was told."""
    told = [grown(deepcopy(list(RULES)), list(marks)) for marks in SETS]
    told.extend(grown([], list(marks)) for marks in SETS)
    told.extend(met(deepcopy(rule), list(marks)) for rule in RULES for marks in SETS)
    return told


def answers(table):
    """All answers on a table, as one value apart from it."""
    kept = [table.many, table.rows, told_of(table), told_of_rules()]
    every = list(range(table.many))
    kept.extend(holds(table, (every[:k], every[k:])) for k in every)
    kept.extend([table.things_with(every), table.marks_of([]), table.closed([])])
    return deepcopy(kept)


class HandedIn(unittest.TestCase):
    def assertUnchanged(self, call, *handed):
        """The call changes no list of what it is handed, nor swaps one."""
        before = deepcopy(handed)
        parts = [id(part) for part in lists_in(handed)]
        try:
            call(*handed)
        except MarkError:
            pass
        self.assertEqual(handed, before)
        self.assertEqual([id(part) for part in lists_in(handed)], parts)

    def test_tables_are_not_changed(self):
        for number in range(len(TABLES)):
            table = made(number)
            fields = deepcopy(vars(table))
            parts = [id(part) for part in lists_in(table.rows)]
            answers(table)
            self.assertEqual(vars(table), fields)
            self.assertEqual([id(part) for part in lists_in(table.rows)], parts)

    def test_boxes_are_not_changed(self):
        for number in range(len(TABLES)):
            table = made(number)
            for one in boxes(table):
                for other in boxes(table):
                    for call in (over, under):
                        self.assertUnchanged(lambda *pair: call(table, *pair), one, other)
                        self.assertUnchanged(lambda *pair: call(table, *pair), one, one)

    def test_boxes_are_not_changed_where_they_are_refused(self):
        table = made()
        right = boxes(table)[0]
        for wrong in (([4, 0], [1]), ([0], [1, 1]), ([1, 0], [99, -1]), ([-1], [-1]), ([3, 3], [3, 2, 1, 0])):
            for call in (over, under):
                self.assertUnchanged(lambda *pair: call(table, *pair), wrong, right)
                self.assertUnchanged(lambda *pair: call(table, *pair), right, wrong)
            self.assertRaises(MarkError, over, table, wrong, right)

    def test_rules_and_sets_are_not_changed(self):
        table = Table(8, ROWS)
        for rule in deepcopy(RULES):
            for marks in deepcopy(SETS):
                self.assertUnchanged(met, rule, marks)
                self.assertUnchanged(lambda *rules: grown(list(rules), marks), rule, rule)
            self.assertUnchanged(lambda rule: holds(table, rule), rule)

    def test_rules_are_not_changed_where_they_are_refused(self):
        table = made()
        for bad in (-1, 4, 10 ** 20):
            for rule in (([3, 1, bad, 1], [2, 0]), ([2, 0, 0], [bad, 3, 1]), ([bad], [bad])):
                self.assertUnchanged(lambda rule: holds(table, rule), rule)
                self.assertRaises(MarkError, holds, table, rule)

    def test_lists_of_rules_are_not_changed(self):
        for marks in deepcopy(SETS):
            self.assertUnchanged(grown, deepcopy(list(RULES)), marks)
            self.assertUnchanged(grown, deepcopy(list(RULES))[::-1], marks)
            self.assertUnchanged(grown, [], marks)
        table = made()
        for marks in ([], [0], [3], [3, 2, 0]):
            self.assertUnchanged(grown, fewest(table), marks)

    def test_boxes_changed_afterwards_change_nothing_told(self):
        for number in range(len(TABLES)):
            table = made(number)
            before = answers(table)
            for one in boxes(table):
                for call in (over, under):
                    first, second = deepcopy(one), boxes(table)[0]
                    told = call(table, first, second)
                    wanted = deepcopy(told)
                    spoil([first, second])
                    self.assertEqual(told, wanted)
            self.assertEqual(answers(table), before)

    def test_rules_changed_afterwards_change_nothing_told(self):
        for marks in SETS:
            rules, handed = deepcopy(list(RULES)), list(marks)
            told = grown(rules, handed)
            wanted = list(told)
            self.assertEqual([met(rule, handed) for rule in rules], [met(rule, marks) for rule in RULES])
            spoil([rules, handed])
            self.assertEqual(told, wanted)
            self.assertEqual(grown(deepcopy(list(RULES)), list(marks)), wanted)


class ToldLists(unittest.TestCase):
    def assertApart(self, told, *handed):
        """No list in what was told is one in what was handed in."""
        parts = [id(part) for part in lists_in(handed)]
        for part in lists_in(told):
            self.assertNotIn(id(part), parts)

    def test_told_lists_changed_in_every_part_change_no_later_answer(self):
        for number in range(len(TABLES)):
            table = made(number)
            before = answers(table)
            for ask in listings():
                spoil(ask(table))
                self.assertEqual(answers(table), before)
                ask(table).clear()
                self.assertEqual(answers(table), before)
            for told in told_of(table):
                spoil(told)
            spoil(told_of_rules())
            self.assertEqual(answers(table), before)

    def test_told_lists_changed_change_no_other_table(self):
        for number in range(len(TABLES)):
            first, second = made(number), made(number)
            before = answers(second)
            spoil(told_of(first))
            self.assertEqual(answers(second), before)
            self.assertEqual(answers(made(number)), before)

    def test_what_is_asked_later_changes_nothing_told_before(self):
        table = made()
        kept = [told_of(table), told_of_rules()]
        before = deepcopy(kept)
        spoil(told_of(table))
        answers(table)
        for number in range(len(TABLES)):
            answers(made(number))
        self.assertRaises(MarkError, over, table, ([9], []), ([9], []))
        self.assertRaises(MarkError, holds, table, ([9], []))
        self.assertEqual(kept, before)

    def test_each_told_list_is_one_of_its_own(self):
        for number in range(len(TABLES)):
            table = made(number)
            kept = [table.rows, told_of(table), told_of(table), told_of_rules(), boxes(made(number))]
            parts = [id(part) for part in lists_in(kept)]
            self.assertEqual(len(set(parts)), len(parts))

    def test_no_answer_has_a_list_that_was_handed_in(self):
        table = made()
        for one in boxes(table):
            for other in boxes(table) + [one]:
                for call in (over, under):
                    self.assertApart(call(table, one, other), one, other)
        for rules in ([], [([0], [1])], [([], [0, 1])]):
            marks = [0, 1]
            self.assertApart(grown(rules, marks), rules, marks)

    def test_an_answer_may_be_handed_in(self):
        table = made()
        listed = boxes(table)
        for one in listed:
            self.assertEqual(over(table, one, under(table, one, listed[0])), one)
        rules = fewest(table)
        for ahead, behind in rules:
            self.assertTrue(holds(table, (ahead, behind)))
            self.assertEqual(grown(rules, ahead), sorted(ahead + behind))
        self.assertEqual((listed, rules), (boxes(table), fewest(table)))


class Tables(unittest.TestCase):
    def test_the_same_table_made_otherwise_tells_the_same(self):
        for number, (many, rows) in enumerate(TABLES):
            other = Table(many, [mixed(row) for row in rows])
            self.assertEqual(answers(made(number)), answers(other))

    def test_tables_asked_by_turns(self):
        tables = [made(number) for number in range(len(TABLES))]
        forth = [answers(table) for table in tables]
        back = [answers(table) for table in tables[::-1]]
        self.assertEqual(forth, back[::-1])


if __name__ == "__main__":
    unittest.main()
