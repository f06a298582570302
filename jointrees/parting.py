"""Parting tables: they agree two and two and have no joined row, and are there just where a bar is."""

from jointrees.bars import bar_for, one_head_has
from jointrees.ears import all_but
from jointrees.loops import with_next
from jointrees.tables import all_agree, are_tables, some_joined


def are_parting(layout, thing):
    """Whether a thing of whatever kind is parting tables of the layout."""
    if not are_tables(layout, thing) or () in thing:
        return False
    return all_agree(layout, thing) and some_joined(layout, thing, 1) == []


def least_lot(layout, lot):
    """A lot among the columns of this one such that some head has all of it but any one column."""
    least = lot
    for column in lot:
        rest = all_but(least, column)
        if not one_head_has(layout, rest):
            least = rest
    return least


def ties_of(layout, bar):
    """The most that heads have of a bar, tie by tie; a tie is as long as the ties are many that a column is in."""
    word, columns = bar
    if word == "ring":
        return [tuple(sorted(pair)) for pair in with_next(columns)]
    least = least_lot(layout, columns)
    return [all_but(least, column) for column in least]


def table_by(head, ties):
    """The table of a head by which the numbers of a tie add up to 0, modulo its length, those of the first one to 1."""
    # The ties all together count each column as often as a tie is long: so they would
    # add up to 0, and to 1, in a joined row. Less than a tie may have any numbers.
    length = len(ties[0])
    tied = tuple([column for column in head if any([column in tie for tie in ties])])
    rows = [()]
    for column in head:
        numbers = list(range(length)) if column in tied else [0]
        rows = [row + (number,) for row in rows for number in numbers]
    if tied not in ties:
        return tuple(rows)
    due = 1 if tied == ties[0] else 0
    return tuple([row for row in rows if sum(row) % length == due])


def parting_of(layout):
    """Some parting tables of the layout, None where it has a join tree."""
    bar = bar_for(layout)
    if bar is None:
        return None
    ties = ties_of(layout, bar)
    return tuple([table_by(head, ties) for head in layout[1]])
