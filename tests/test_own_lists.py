"""Nothing handed in is changed, and nothing told stays bound to the table."""

import unittest
from copy import deepcopy

from markbox.errors import MarkError
from markbox.tables import Table

ROWS = [[3, 1, 3], [2, 1, 0], [1], [3, 2, 1, 0, 0]]
SETS = ([], [0], [3, 1], [1, 3, 1], [0, 1, 2, 3], [2, 0, 2], [3, 2, 1, 0])


def made():
    return Table(4, deepcopy(ROWS))


def methods(table):
    return [table.things_with, table.marks_of, table.closed]


def answers(table):
    """All that a table of ROWS tells, as one value apart from the table."""
    told = [table.many, deepcopy(table.rows)]
    for method in methods(table):
        told.append([list(method(list(numbers))) for numbers in SETS])
    return told


def spoil(numbers):
    """Change a list in each of the ways that could be seen elsewhere."""
    numbers.reverse()
    numbers.append(99)
    numbers.insert(0, -1)
    numbers[1:2] = [7, 7]


class HandedIn(unittest.TestCase):
    def assertUnchanged(self, call, handed):
        """The call changes no list of what it is handed, nor swaps one."""
        before = deepcopy(handed)
        parts = [id(part) for part in handed]
        try:
            call(handed)
        except MarkError:
            pass
        self.assertEqual(handed, before)
        self.assertEqual([id(part) for part in handed], parts)

    def test_rows_are_not_changed(self):
        self.assertUnchanged(lambda rows: Table(4, rows), deepcopy(ROWS))
        self.assertUnchanged(lambda rows: Table(0, rows), [[], []])

    def test_rows_are_not_changed_where_they_are_refused(self):
        for many in (-1, 0, 1, 2, 3, 9):
            with self.assertRaises(MarkError):
                Table(many, deepcopy(ROWS))
            self.assertUnchanged(lambda rows: Table(many, rows), deepcopy(ROWS))
        for bad in (-1, 4, 99):
            self.assertUnchanged(lambda rows: Table(4, rows), deepcopy(ROWS) + [[3, bad, 0, 0]])
        self.assertUnchanged(lambda rows: Table(4, rows), [[3, 1, 3] for _ in range(13)])

    def test_sets_are_not_changed(self):
        for numbers in SETS:
            for method in methods(made()):
                self.assertUnchanged(method, list(numbers))

    def test_sets_are_not_changed_where_they_are_refused(self):
        for bad in (-1, 4, 99):
            for method in methods(made()):
                self.assertUnchanged(method, [3, 1, 3, bad, 0, 0])
                self.assertUnchanged(method, [bad, 3, 1, bad])

    def test_rows_changed_afterwards_do_not_change_the_table(self):
        rows = deepcopy(ROWS)
        table = Table(4, rows)
        before = answers(table)
        for row in rows:
            spoil(row)
            self.assertEqual(answers(table), before)
        rows[0] = [0]
        rows.append([0, 1, 2, 3])
        self.assertEqual(answers(table), before)
        rows.clear()
        self.assertEqual(answers(table), before)

    def test_rows_that_stood_as_told_are_copied_too(self):
        rows = [[0, 1], [], [1]]
        table = Table(2, rows)
        rows[0].clear()
        rows[1].append(0)
        rows.pop()
        self.assertEqual(table.rows, [[0, 1], [], [1]])
        self.assertEqual(table.things_with([1]), [0, 2])
        self.assertEqual(table.marks_of([0]), [0, 1])

    def test_one_list_handed_in_as_several_rows(self):
        row = [1, 0]
        table = Table(3, [row, row, row])
        row.append(2)
        self.assertEqual(table.rows, [[0, 1], [0, 1], [0, 1]])
        self.assertEqual(table.things_with([2]), [])

    def test_sets_changed_afterwards_do_not_change_the_table(self):
        table = made()
        before = answers(table)
        for method in methods(table):
            for numbers in SETS:
                handed = list(numbers)
                method(handed)
                spoil(handed)
                self.assertEqual(answers(table), before)

    def test_refused_sets_changed_afterwards_do_not_change_the_table(self):
        table = made()
        before = answers(table)
        for method in methods(table):
            handed = [1, 4, 0]
            self.assertRaises(MarkError, method, handed)
            spoil(handed)
            self.assertEqual(answers(table), before)


class ToldLists(unittest.TestCase):
    def test_a_told_list_changed_changes_no_later_answer(self):
        table = made()
        before = answers(table)
        for method in methods(table):
            for numbers in SETS:
                spoil(method(list(numbers)))
                self.assertEqual(answers(table), before)
                method(list(numbers)).clear()
                self.assertEqual(answers(table), before)

    def test_so_too_where_all_or_nothing_is_told(self):
        for many, rows in ((0, []), (3, []), (0, [[], []]), (2, [[0, 1], [1, 0]]), (2, [[], []])):
            table = Table(many, rows)
            for method in methods(table):
                wanted = list(method([]))
                spoil(method([]))
                self.assertEqual(method([]), wanted)
                self.assertEqual(table.rows, [sorted(row) for row in rows])

    def test_a_told_list_changed_changes_no_other_table(self):
        first, second = made(), made()
        before = answers(second)
        for method in methods(first):
            for numbers in SETS:
                spoil(method(list(numbers)))
        self.assertEqual(answers(second), before)

    def test_what_is_asked_later_changes_no_list_told_before(self):
        table = made()
        kept = [method(list(numbers)) for method in methods(table) for numbers in SETS]
        before = deepcopy(kept)
        answers(table)
        for method in methods(table):
            self.assertRaises(MarkError, method, [0, 4])
        answers(Table(4, [[0], [1], [2], [3]]))
        self.assertEqual(kept, before)

    def test_each_answer_is_a_list_of_its_own(self):
        table = made()
        kept = [method(list(numbers)) for method in methods(table) for numbers in SETS * 2]
        kept.extend(table.rows)
        kept.append(table.rows)
        self.assertEqual(len({id(numbers) for numbers in kept}), len(kept))

    def test_no_answer_is_the_list_handed_in(self):
        table = Table(2, [[0, 1], [0, 1]])
        for method in methods(table):
            handed = [0, 1]
            told = method(handed)
            self.assertEqual(told, [0, 1])
            self.assertIsNot(told, handed)
            told.append(5)
            self.assertEqual(handed, [0, 1])

    def test_an_answer_may_be_handed_in(self):
        table = made()
        things = table.things_with([1])
        self.assertEqual(things, [0, 1, 2, 3])
        self.assertEqual(table.marks_of(things), [1])
        self.assertEqual(things, [0, 1, 2, 3])


class Tables(unittest.TestCase):
    def test_two_tables_share_nothing(self):
        first = Table(3, [[0], [1]])
        second = Table(2, [[1, 0]])
        self.assertEqual((first.many, first.rows), (3, [[0], [1]]))
        self.assertEqual((second.many, second.rows), (2, [[0, 1]]))
        self.assertEqual(first.closed([0]), [0])
        self.assertEqual(second.closed([0]), [0, 1])
        self.assertEqual(first.closed([0]), [0])

    def test_the_order_of_asking_does_not_matter(self):
        forth, back = made(), made()
        asks = [(at, numbers) for at in range(3) for numbers in SETS]
        one = [methods(forth)[at](list(numbers)) for at, numbers in asks]
        other = [methods(back)[at](list(numbers)) for at, numbers in reversed(asks)]
        self.assertEqual(one, other[::-1])


if __name__ == "__main__":
    unittest.main()
