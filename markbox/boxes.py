"""Boxes: sets of things and of marks that belong together."""

from markbox.errors import NoBox
from markbox.sets import all_below, all_sets, has_all, in_both


def box_with(table, marks):
    """The box of all things that have each of the marks."""
    things = table.things_with(marks)
    return things, table.marks_of(things)


def boxes(table):
    """All boxes: those of fewer marks first, then by their marks as lists."""
    closed_sets = [marks for marks in all_sets(table.many) if table.closed(marks) == marks]
    return [box_with(table, marks) for marks in closed_sets]


def is_box(table, pair):
    """Whether a pair of things and marks is a box, told as boxes are."""
    _, marks = pair
    # The table itself would refuse what is no mark, by another error.
    return all_below(marks, table.many) and pair == box_with(table, marks)


def check_boxes(table, pairs):
    """Refuse what is no box of the table told so."""
    for pair in pairs:
        if not is_box(table, pair):
            raise NoBox("a pair of things and marks is no box of the table")


def over(table, one, other):
    """The box over two: the one with just the marks that both have."""
    check_boxes(table, [one, other])
    return box_with(table, in_both(one[1], other[1]))


def under(table, one, other):
    """The box under two: the one with just the things that both have."""
    check_boxes(table, [one, other])
    things = in_both(one[0], other[0])
    return things, table.marks_of(things)


def lies_under(one, other):
    """Whether the things of a box are some of another's, but not all."""
    return one[0] != other[0] and has_all(other[0], one[0])


def places_over(box, listed):
    """The places in a list of boxes whose box this box lies under."""
    return [place for place, other in enumerate(listed) if lies_under(box, other)]


def right_over(place, overs):
    """The places right over a place, where overs has those over each one."""
    return sorted(set(overs[place]) - {far for near in overs[place] for far in overs[near]})


def steps(table):
    """All pairs of places where the first box lies right under the second."""
    listed = boxes(table)
    overs = [places_over(box, listed) for box in listed]
    return [(low, high) for low in range(len(listed)) for high in right_over(low, overs)]
