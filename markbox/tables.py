"""Tables: which thing has which marks."""

from markbox.errors import BadMark, BadSize, BadThing
from markbox.sets import all_below, has_all, told

MOST_MARKS = 8
MOST_THINGS = 12


def on_all(mark, rows):
    """Whether a mark is in each of the rows."""
    return all(mark in row for row in rows)


def check_sizes(many, rows):
    """Refuse a table with too few or too many marks, or too many things."""
    if many < 0 or many > MOST_MARKS:
        raise BadSize(f"a table has 0 to {MOST_MARKS} marks")
    if len(rows) > MOST_THINGS:
        raise BadSize(f"a table has 0 to {MOST_THINGS} things")


def check_marks(marks, many):
    """Refuse what is no mark of a table with so many marks."""
    # The message does not show the number: Python refuses to write out
    # a very long one, by an error that is not ours.
    if not all_below(marks, many):
        raise BadMark("a number is no mark of the table")


def check_things(things, many):
    """Refuse what is no thing of a table with so many things."""
    if not all_below(things, many):
        raise BadThing("a number is no thing of the table")


class Table:
    """Things and marks, both numbered from nought, and who has what."""

    def __init__(self, many, rows):
        check_sizes(many, rows)
        for row in rows:
            check_marks(row, many)
        self.many = many
        self.rows = [told(row) for row in rows]

    def things_with(self, marks):
        """The set of all things that have each of the marks."""
        check_marks(marks, self.many)
        return [thing for thing, row in enumerate(self.rows) if has_all(row, marks)]

    def marks_of(self, things):
        """The set of all marks that each of the things has."""
        check_things(things, len(self.rows))
        rows = [self.rows[thing] for thing in things]
        return [mark for mark in range(self.many) if on_all(mark, rows)]

    def closed(self, marks):
        """The closure of the marks: the marks of the things with them."""
        return self.marks_of(self.things_with(marks))
