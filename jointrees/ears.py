"""Ears: heads that go because another one has all that they share."""

from jointrees.errors import NoDeed
from jointrees.kinds import has_all, is_two_below


def all_numbers(layout):
    """The rising tuple of all heads' numbers."""
    return tuple(range(len(layout[1])))


def shared_by(layout, left, number):
    """The columns of a head that any other one of the heads left has, too."""
    heads = layout[1]
    others = [heads[other] for other in left if other != number]
    return tuple([column for column in heads[number] if any([column in head for head in others])])


def holders_of(layout, left, number):
    """The rising list of the heads left that hold this one; none where it is no ear."""
    heads = layout[1]
    shared = shared_by(layout, left, number)
    return [other for other in left if other != number and has_all(heads[other], shared)]


def ears_among(layout, left):
    """The rising list of (ear, least holder) among the heads left."""
    found = []
    for number in left:
        holders = holders_of(layout, left, number)
        if holders:
            found.append((number, holders[0]))
    return found


def ears(layout):
    """The rising list of (ear, least holder) for all ears of the layout."""
    return ears_among(layout, all_numbers(layout))


def all_but(left, gone):
    """The heads left when one more is gone."""
    return tuple([number for number in left if number != gone])


def is_step(layout, left, thing):
    """Whether a thing of whatever kind is an ear and a holder of it among the heads left."""
    if not is_two_below(thing, len(layout[1])):
        return False
    ear, holder = thing
    return ear in left and holder in holders_of(layout, left, ear)


def left_or_none(layout, thing):
    """The heads left by steps, None where the thing is no steps."""
    if not isinstance(thing, list):
        return None
    left = all_numbers(layout)
    for step in thing:
        if not is_step(layout, left, step):
            return None
        left = all_but(left, step[0])
    return left


def are_steps(layout, thing):
    """Whether a thing of whatever kind is steps of the layout."""
    return left_or_none(layout, thing) is not None


def left_by(layout, steps):
    """The rising tuple of the heads that are left by the steps."""
    left = left_or_none(layout, steps)
    if left is None:
        raise NoDeed("no steps of the layout")
    return left


def steps_for(layout):
    """The steps by which the least ear goes by its least holder, until there is none."""
    left = all_numbers(layout)
    steps = []
    found = ears_among(layout, left)
    while found:
        steps.append(found[0])
        left = all_but(left, found[0][0])
        found = ears_among(layout, left)
    return steps


def bare_core(layout):
    """What the heads that are left without an ear share, all in one rising tuple."""
    left = left_by(layout, steps_for(layout))
    if len(left) == 1:
        return ()
    return tuple(sorted([shared_by(layout, left, number) for number in left]))
