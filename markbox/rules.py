"""Rules between marks: what has those ahead has those behind."""

from markbox.sets import all_sets, has_all, without
from markbox.tables import check_marks


def met(rule, marks):
    """Whether a set lacks a mark of those ahead or has all those behind."""
    ahead, behind = rule
    return not has_all(marks, ahead) or has_all(marks, behind)


def holds(table, rule):
    """Whether the marks of each thing of the table meet the rule."""
    ahead, behind = rule
    check_marks(ahead, table.many)
    check_marks(behind, table.many)
    return all(met(rule, row) for row in table.rows)


def grown(rules, marks):
    """The least set that has all the marks and meets each of the rules."""
    has = {mark: True for mark in marks}
    waiting = {}
    ready = list(rules)
    while ready:
        ahead, behind = ready.pop()
        lacked = without(ahead, has)
        if lacked:
            # A rule that waits for a mark is not tried again without it:
            # a long chain of rules in a bad order stays quick.
            waiting.setdefault(lacked[0], []).append((ahead, behind))
        else:
            for mark in behind:
                has[mark] = True
                ready.extend(waiting.pop(mark, []))
    return sorted(has)


def fewest(table):
    """The rules of the table: one for each knot, the smaller knots first."""
    rules = []
    for marks in all_sets(table.many):
        closure = table.closed(marks)
        # Each smaller knot has its rule by now, and a set that has the knot
        # has its whole closure just where it meets that rule.
        if closure != marks and all(met(rule, marks) for rule in rules):
            rules.append((marks, without(closure, marks)))
    return rules
