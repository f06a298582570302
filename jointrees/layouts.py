"""Layouts: how many columns there are, and which of them each head has."""

from jointrees.errors import NoColumn, NoHead, NoOrder, TooMany
from jointrees.kinds import are_all_below, are_below, is_below, is_rising, is_whole, linked

MOST_COLUMNS = 7
MOST_HEADS = 6


def is_head(thing, many):
    """Whether a thing is a head of a layout of so many columns."""
    return are_below(thing, many) and len(thing) > 0 and is_rising(thing)


def is_layout(thing):
    """Whether a thing of whatever kind is a layout."""
    if not isinstance(thing, tuple) or len(thing) != 2:
        return False
    many, heads = thing
    if not is_whole(many) or not 1 <= many <= MOST_COLUMNS:
        return False
    if not isinstance(heads, tuple) or not 1 <= len(heads) <= MOST_HEADS:
        return False
    return all([is_head(head, many) for head in heads])


def need_head(layout, thing):
    """Refuse what is no number of a head."""
    if not is_below(thing, len(layout[1])):
        raise NoHead("no number of a head of the layout")


def heads_of(layout, column):
    """The rising tuple of the numbers of the heads that have the column."""
    many, heads = layout
    if not is_below(column, many):
        raise NoColumn("no column of the layout")
    return tuple([number for number, head in enumerate(heads) if column in head])


def common(layout, one, other):
    """The rising tuple of the columns that both heads have."""
    need_head(layout, one)
    need_head(layout, other)
    heads = layout[1]
    return tuple([column for column in heads[one] if column in heads[other]])


def columns_in_heads(layout):
    """The rising tuple of the columns that a head has."""
    return tuple([column for column in range(layout[0]) if heads_of(layout, column)])


def pieces(layout):
    """The heads' numbers that hang together by common columns, by their least ones."""
    numbers = list(range(len(layout[1])))
    labels = tuple(numbers)
    for one in numbers:
        for other in numbers[:one]:
            if common(layout, one, other):
                labels = linked(labels, one, other)
    return [tuple([number for number in numbers if labels[number] == least])
            for least in numbers if labels[least] == least]


def moved(heads, places):
    """The heads with each column numbered by its place; places may turn the columns about."""
    return tuple([tuple(sorted([places[column] for column in head])) for head in heads])


def named(layout, order):
    """The layout in which the column number k of the order is numbered k."""
    many, heads = layout
    if not are_all_below(order, many):
        raise NoOrder("no tuple of all columns, each once")
    return (many, moved(heads, {column: place for place, column in enumerate(order)}))


def beside(one, other):
    """The layout of both: the other one's columns and heads stand behind the one's."""
    many = one[0] + other[0]
    heads = one[1] + moved(other[1], list(range(one[0], many)))
    if many > MOST_COLUMNS or len(heads) > MOST_HEADS:
        raise TooMany("more columns or heads than a layout may have")
    return (many, heads)


def without(layout, head):
    """The layout without this head, those behind it numbered one less."""
    need_head(layout, head)
    many, heads = layout
    if len(heads) == 1:
        raise NoHead("there is no other head")
    return (many, heads[:head] + heads[head + 1:])
