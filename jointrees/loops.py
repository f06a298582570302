"""Loops: heads that come round by unlike columns, and the counts that show where there is none."""

from jointrees.kinds import are_below, are_unlike
from jointrees.layouts import columns_in_heads, common, heads_of, pieces

LEAST_LOOP = 2


def with_next(heads):
    """The pairs of each head and the next one; behind the last one comes the first."""
    return list(zip(heads, heads[1:] + heads[:1]))


def are_unlike_below(thing, many):
    """Whether a thing is a tuple of unlike whole numbers from 0 to many, less one."""
    return are_below(thing, many) and are_unlike(thing)


def is_loop(layout, thing):
    """Whether a thing of whatever kind is a loop of the layout."""
    if not isinstance(thing, tuple) or len(thing) != 2:
        return False
    heads, columns = thing
    if not are_unlike_below(heads, len(layout[1])) or not are_unlike_below(columns, layout[0]):
        return False
    if len(heads) < LEAST_LOOP or len(columns) != len(heads):
        return False
    return all([column in common(layout, one, other) for column, (one, other) in zip(columns, with_next(heads))])


def loop_from(layout, heads, columns):
    """Some loop that the way by these heads and the columns between them comes to, None where there is none."""
    for column in layout[1][heads[-1]]:
        if column not in columns:
            for head in heads_of(layout, column):
                found = loop_by(layout, heads, columns + (column,), head)
                if found is not None:
                    return found
    return None


def loop_by(layout, heads, columns, head):
    """Some loop that the way comes to by this head, which has the last column."""
    if head == heads[-1]:
        return None
    if head in heads:
        # The way has come round: what is ahead of this head leads to the loop only.
        place = heads.index(head)
        return (heads[place:], columns[place:])
    return loop_from(layout, heads + (head,), columns)


def loop_of(layout):
    """Some loop of the layout, None where there is none."""
    # One head of each piece is not enough: a way that comes round to a
    # column, not to a head, is led on no further and tells no loop.
    for head in range(len(layout[1])):
        found = loop_from(layout, (head,), ())
        if found is not None:
            return found
    return None


def counts_of(layout):
    """How many columns a head has, heads, columns of each head by itself, and pieces there are."""
    heads = layout[1]
    return (len(columns_in_heads(layout)), len(heads), sum([len(head) for head in heads]), len(pieces(layout)))
