"""Nests and wreaths, which tell whether all parts of the heads have join trees, and layouts of such parts."""

from jointrees.errors import NoHead
from jointrees.kinds import are_below, has_all, is_rising
from jointrees.layouts import columns_in_heads, common, heads_of
from jointrees.loops import is_loop, with_next

LEAST_WREATH = 3


def is_nest(heads, column):
    """Whether of any two of the heads that have the column one has all columns of the other one."""
    having = [head for head in heads if column in head]
    return all([has_all(one, other) or has_all(other, one) for one in having for other in having])


def taken_out(heads, column):
    """What is left of the heads when the column is taken out of them."""
    return tuple([tuple([other for other in head if other != column]) for head in heads])


def are_nests(layout, thing):
    """Whether a thing of whatever kind is a row of nests of the layout."""
    if not are_below(thing, layout[0]) or tuple(sorted(thing)) != columns_in_heads(layout):
        return False
    heads = layout[1]
    for column in thing:
        if not is_nest(heads, column):
            return False
        heads = taken_out(heads, column)
    return True


def first_nests(layout):
    """The first row of nests, as tuples compare, None where there is none."""
    # A nest stays one when others are taken out ahead of it, and so do the
    # others when it is: so the least nest never bars a row, and is taken.
    heads = layout[1]
    row = ()
    left = columns_in_heads(layout)
    while left:
        nests = [column for column in left if is_nest(heads, column)]
        if not nests:
            return None
        row += (nests[0],)
        heads = taken_out(heads, nests[0])
        left = tuple([column for column in left if column != nests[0]])
    return row


def only_two_have(layout, heads, column):
    """Whether just two of these heads have the column."""
    return len([head for head in heads_of(layout, column) if head in heads]) == 2


def is_wreath(layout, thing):
    """Whether a thing of whatever kind is a wreath of the layout."""
    if not is_loop(layout, thing) or len(thing[0]) < LEAST_WREATH:
        return False
    heads, columns = thing
    return all([only_two_have(layout, heads, column) for column in columns])


def columns_between(layout, heads):
    """For each of these heads and the next one the columns of both that no third one has."""
    return [[column for column in common(layout, one, other) if only_two_have(layout, heads, column)]
            for one, other in with_next(heads)]


def wreath_from(layout, heads):
    """Some wreath whose heads begin so, None where there is none."""
    between = columns_between(layout, heads)
    # The last one and the first one need no such column yet: others may come between.
    if [] in between[:-1]:
        return None
    if len(heads) >= LEAST_WREATH and between[-1]:
        return (heads, tuple([columns[0] for columns in between]))
    for head in range(heads[0] + 1, len(layout[1])):
        if head not in heads:
            found = wreath_from(layout, heads + (head,))
            if found is not None:
                return found
    return None


def wreath_of(layout):
    """Some wreath of the layout, None where there is none."""
    for head in range(len(layout[1])):
        found = wreath_from(layout, (head,))
        if found is not None:
            return found
    return None


def heads_alone(layout, heads):
    """The layout of these heads alone, with as many columns."""
    if not are_below(heads, len(layout[1])) or len(heads) == 0 or not is_rising(heads):
        raise NoHead("no rising tuple of one or more numbers of heads")
    return (layout[0], tuple([layout[1][head] for head in heads]))
