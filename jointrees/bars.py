"""Bars: rings and lots of columns, one of which there is just where there is no join tree."""

from jointrees.kinds import are_below, are_unlike, has_all, is_rising

LEAST_RING = 4
LEAST_LOT = 3


def one_head_has(layout, columns):
    """Whether some head has all of these columns."""
    return any([has_all(head, columns) for head in layout[1]])


def are_mates(layout, one, other):
    """Whether two columns are unlike and some head has both."""
    return one != other and one_head_has(layout, (one, other))


def just_neighbours_are_mates(layout, columns):
    """Whether of unlike columns those two are mates that follow one another, the last one and the first one, too."""
    many = len(columns)
    return all([are_mates(layout, columns[one], columns[other]) == (other - one in (1, many - 1))
                for other in range(many) for one in range(other)])


def are_ring(layout, columns):
    """Whether a tuple of columns is one of a ring, told as it is due."""
    if len(columns) < LEAST_RING or not are_unlike(columns):
        return False
    if columns[0] != min(columns) or columns[1] > columns[-1]:
        return False
    return just_neighbours_are_mates(layout, columns)


def are_lot(layout, columns):
    """Whether a tuple of columns is one of a lot."""
    if len(columns) < LEAST_LOT or not is_rising(columns):
        return False
    if not all([are_mates(layout, one, other) for one in columns for other in columns if one < other]):
        return False
    return not one_head_has(layout, columns)


def is_bar(layout, thing):
    """Whether a thing of whatever kind is a bar of the layout."""
    if not isinstance(thing, tuple) or len(thing) != 2:
        return False
    word, columns = thing
    if not are_below(columns, layout[0]):
        return False
    if word == "ring":
        return are_ring(layout, columns)
    return word == "lot" and are_lot(layout, columns)


def ring_from(layout, way):
    """Some ring that begins with this way, None where there is none."""
    if are_ring(layout, way):
        return way
    for column in range(way[0] + 1, layout[0]):
        # The first one of the way may be its mate: then it closes the ring.
        apart = not any([are_mates(layout, column, other) for other in way[1:-1]])
        if apart and column not in way and are_mates(layout, column, way[-1]):
            found = ring_from(layout, way + (column,))
            if found is not None:
                return found
    return None


def lot_from(layout, mates):
    """Some lot that begins with these mates, None where there is none."""
    if are_lot(layout, mates):
        return mates
    for column in range(mates[-1] + 1, layout[0]):
        if all([are_mates(layout, column, other) for other in mates]):
            found = lot_from(layout, mates + (column,))
            if found is not None:
                return found
    return None


def bar_for(layout):
    """Some bar of the layout, None where there is a join tree."""
    for column in range(layout[0]):
        lot = lot_from(layout, (column,))
        if lot is not None:
            return ("lot", lot)
        ring = ring_from(layout, (column,))
        if ring is not None:
            return ("ring", ring)
    return None
