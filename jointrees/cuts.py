"""Tables cut by one another, and the deeds that cut them down to the rows that are in joined rows."""

from jointrees.ears import steps_for
from jointrees.errors import Bound, NoDeed
from jointrees.kinds import is_two_below
from jointrees.tables import Search, cut, cut_all_round, need_tables, order_behind


def are_deeds(layout, thing):
    """Whether a thing of whatever kind is deeds of the layout."""
    if not isinstance(thing, list):
        return False
    return all([is_two_below(deed, len(layout[1])) and deed[0] != deed[1] for deed in thing])


def cut_along(layout, tables, deeds):
    """The tables when the deeds are done, one behind the other."""
    then = list(tables)
    done = {}
    for one, other in deeds:
        # Done again with nothing cut between, a deed cuts nothing.
        if (one, other) not in done:
            table = cut(layout, then, one, other)
            if table != then[one]:
                done.clear()
            then[one] = table
            done[(one, other)] = True
    return tuple(then)


def cut_by(layout, tables, deeds):
    """The tables when for each deed, in order, the table of the one is cut by that of the other."""
    need_tables(layout, tables)
    if not are_deeds(layout, deeds):
        raise NoDeed("no list of tuples of two unlike heads' numbers")
    return cut_along(layout, tables, deeds)


def joined_parts(layout, tables):
    """For each table the rows that are in some joined row."""
    need_tables(layout, tables)
    left = cut_all_round(layout, tables)
    parts = []
    for head, table in zip(layout[1], left):
        search = Search(layout, left, order_behind(layout, head))
        parts.append(tuple(search.beginnings(len(head), len(table))))
    return tuple(parts)


def steps_to_one(layout):
    """The told steps by which all heads go but one; refused with Bound where there is no join tree."""
    steps = steps_for(layout)
    if len(steps) < len(layout[1]) - 1:
        raise Bound("the layout has no join tree")
    return steps


def deeds_by(steps):
    """The deeds up and down: by each step the holder is cut by the ear, and then, back, the ear by the holder."""
    return [(holder, ear) for ear, holder in steps] + [(ear, holder) for ear, holder in reversed(steps)]


def deeds_for(layout):
    """The deeds by which any tables are cut down to just the rows that are in joined rows."""
    return deeds_by(steps_to_one(layout))
