"""Orders of the heads and of the columns, which are there just where a join tree is."""

from jointrees.ears import all_numbers, holders_of
from jointrees.kinds import are_all_below, has_all


def runs_on(layout, ahead, number):
    """Whether the head may come behind those ahead in a running order."""
    # It would be an ear among these and itself, its holder one of these.
    return ahead == () or holders_of(layout, ahead, number) != []


def is_running(layout, thing):
    """Whether a thing of whatever kind is a running order of the layout."""
    if not are_all_below(thing, len(layout[1])):
        return False
    return all([runs_on(layout, thing[:place], number) for place, number in enumerate(thing)])


def running_from(layout, ahead):
    """The first running order that begins so, as tuples compare, None where there is none."""
    if len(ahead) == len(layout[1]):
        return ahead
    for number in all_numbers(layout):
        if number not in ahead and runs_on(layout, ahead, number):
            found = running_from(layout, ahead + (number,))
            if found is not None:
                return found
    return None


def running_for(layout):
    """The first running order, as tuples compare, None where there is none."""
    return running_from(layout, ())


def may_go_ahead(layout, column, behind):
    """Whether the column is in no head, or some head has it and all its mates among those behind."""
    having = [head for head in layout[1] if column in head]
    mates = [other for other in behind if any([other in head for head in having])]
    return having == [] or any([has_all(head, mates) for head in having])


def is_column_order(layout, thing):
    """Whether a thing of whatever kind is a column order of the layout."""
    if not are_all_below(thing, layout[0]):
        return False
    return all([may_go_ahead(layout, column, thing[place + 1:]) for place, column in enumerate(thing)])


def column_order_for(layout):
    """The first column order, as tuples compare, None where there is none."""
    # What may go ahead may still do so when others have gone, and holds none
    # of them back when it has: so the least one never bars an order.
    order = ()
    left = tuple(range(layout[0]))
    while left:
        free = [column for column in left if may_go_ahead(layout, column, left)]
        if not free:
            return None
        order += (free[0],)
        left = tuple([column for column in left if column != free[0]])
    return order
