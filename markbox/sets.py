"""Sets of numbers, as lists of them."""

from itertools import combinations


def told(numbers):
    """A set as it is told: a new list of its numbers, each once, rising."""
    return sorted(set(numbers))


def all_below(numbers, many):
    """Whether each of the numbers is from 0 to many - 1."""
    return all(0 <= number < many for number in numbers)


def has_all(whole, part):
    """Whether a set has each of the numbers of another one."""
    return all(number in whole for number in part)


def in_both(one, other):
    """The numbers of one set that the other one has too."""
    return [number for number in one if number in other]


def without(one, other):
    """The numbers of one set that the other one lacks."""
    return [number for number in one if number not in other]


def all_sets(many):
    """All sets of numbers below many: the smaller first, then as lists."""
    return [list(part) for size in range(many + 1) for part in combinations(range(many), size)]
