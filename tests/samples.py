"""What several of the tests share: tables to try, and the document's words.

The functions `.._by_words` say over plain rows what the points [2] to [10]
say, without the package.
"""

import random
import unittest
from itertools import product

from markbox.errors import BadMark, BadSize, BadThing, MarkError, NoBox

POND = [[0, 5], [0, 5, 6], [0, 1, 5, 6], [0, 1, 2, 3], [1, 2, 4]]
# Python does not write out a number as long as the last two: no message
# may show it, or another error comes instead.
FAR = (9, 12, 13, 100, 2 ** 64, 10 ** 20, 10 ** 5000, -100, -(10 ** 20), -(10 ** 5000))


def subsets(many):
    """All sets of numbers below many, as lists, rising."""
    return [[k for k in range(many) if at >> k & 1] for at in range(2 ** many)]


def by_size(sets):
    """The sets by how many numbers they have, then as lists."""
    return sorted(sets, key=lambda numbers: (len(numbers), numbers))


def mixed(numbers):
    """The same set, falling and with each number more than once."""
    return numbers[::-1] + numbers + numbers[:1]


def at_any_place(numbers, bad):
    """The numbers with a bad one before, between and behind them."""
    return [numbers[:k] + [bad] + numbers[k:] for k in range(len(numbers) + 1)]


def things_by_words(rows, marks):
    return [k for k in range(len(rows)) if set(marks) <= set(rows[k])]


def marks_by_words(many, rows, things):
    shared = set(range(many))
    for thing in things:
        shared &= set(rows[thing])
    return sorted(shared)


def closed_by_words(many, rows, marks):
    return marks_by_words(many, rows, things_by_words(rows, marks))


def boxes_by_words(many, rows):
    """Points [4] and [5], tried over every set of marks."""
    found = []
    for marks in by_size(subsets(many)):
        things = things_by_words(rows, marks)
        if marks_by_words(many, rows, things) == marks:
            found.append((things, marks))
    return found


def met_by_words(rule, marks):
    ahead, behind = rule
    return any(mark not in marks for mark in ahead) or set(behind) <= set(marks)


def rules_by_words(many, rows):
    """Points [10] and [11], tried over every set of marks by size."""
    closures = {}
    for marks in by_size(subsets(many)):
        closure = set(closed_by_words(many, rows, marks))
        knot = set(marks)
        if closure != knot and all(closures[k] <= knot for k in closures if set(k) < knot):
            closures[tuple(marks)] = closure
    return [(list(knot), sorted(closure - set(knot))) for knot, closure in closures.items()]


def small_tables():
    """Every table of 0 to 3 marks and 0 to 3 things."""
    for many in range(4):
        for count in range(4):
            for rows in product(subsets(many), repeat=count):
                yield many, list(rows)


def sized_tables():
    """A few tables of each size, of few marks and of many, always the same."""
    for many in range(9):
        for count in range(13):
            chance = random.Random(100 * many + count)
            for share in (0.3, 0.6, 0.85):
                yield many, [[mark for mark in range(many) if chance.random() < share] for _ in range(count)]


def full_size_tables():
    """Some tables of 8 marks and 12 things, of few marks and of many."""
    yield 8, [[mark for mark in range(8) if mark != k and mark != k - 4] for k in range(12)]
    yield 8, [[mark for mark in range(8) if (k * k + 3 * mark) % 7 < 3] for k in range(12)]
    yield 8, [[mark for mark in range(8) if (k + 1) % (mark + 1) == 0] for k in range(12)]
    yield 8, [list(range(8)) for _ in range(12)]
    yield 8, [[] for _ in range(12)]
    yield 8, [list(range(min(k, 8))) for k in range(12)]


def many_tables():
    """All the small tables, some of each size, some of full size."""
    yield from small_tables()
    yield from sized_tables()
    yield from full_size_tables()


def every_closed_family(many):
    """All families of sets of marks that are the closed sets of some table."""
    everything = frozenset(range(many))
    families = {frozenset([everything])}
    for marks in subsets(many):
        for family in list(families):
            families.add(family | {frozenset(marks) & member for member in family})
    return families


def rows_of_family(family):
    """Things with marks of which just this family's sets are closed."""
    rows = []
    for member in family:
        # What several greater ones have in common needs no thing of its own.
        greater = [other for other in family if member < other]
        if greater and frozenset.intersection(*greater) != member:
            rows.append(sorted(member))
    return by_size(rows)


def lists_in(told):
    """Each list that a told value is or has within it."""
    if isinstance(told, list):
        yield told
    if isinstance(told, (list, tuple)):
        for part in told:
            yield from lists_in(part)


def spoil(told):
    """Change each list in a value in each of the ways that could be seen."""
    for numbers in list(lists_in(told)):
        numbers.reverse()
        numbers.append(99)
        numbers.insert(0, -1)
        numbers[1:2] = [7, 7]


class Told(unittest.TestCase):
    def assertKinds(self, answer):
        """The answer is made of plain lists, tuples and whole numbers."""
        self.assertIn(type(answer), (list, tuple, int))
        if type(answer) is not int:
            for part in answer:
                self.assertKinds(part)

    def assertTold(self, answer, wanted):
        """The answer is as wanted, in its kinds of values, too."""
        self.assertKinds(answer)
        self.assertEqual(answer, wanted)

    def assertPairs(self, answer):
        """The answer is a list of pairs (tuples) of sets (lists)."""
        self.assertIs(type(answer), list)
        for pair in answer:
            self.assertIs(type(pair), tuple)
            self.assertEqual([type(part) for part in pair], [list, list])


class Refusing(Told):
    def assertRefused(self, kind, call, *handed):
        """The call is refused by this kind, which no other kind takes."""
        with self.assertRaises(ValueError) as caught:
            call(*handed)
        self.assertIs(type(caught.exception), kind)
        self.assertIsInstance(caught.exception, MarkError)
        for other in (BadSize, BadMark, BadThing, NoBox):
            self.assertEqual(isinstance(caught.exception, other), other is kind)
