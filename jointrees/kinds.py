"""What the other modules share: the kinds of things, and what hangs together."""


def is_whole(thing):
    """Whether a thing is a whole number; True and False are none."""
    return isinstance(thing, int) and not isinstance(thing, bool)


def is_below(thing, many):
    """Whether a thing is one of the whole numbers from 0 to many, less one."""
    return is_whole(thing) and 0 <= thing < many


def are_below(thing, many):
    """Whether a thing is a tuple of whole numbers from 0 to many, less one."""
    return isinstance(thing, tuple) and all([is_below(part, many) for part in thing])


def is_two_below(thing, many):
    """Whether a thing is a tuple of two whole numbers from 0 to many, less one."""
    return are_below(thing, many) and len(thing) == 2


def are_unlike(things):
    """Whether no two are alike; the things are whole numbers."""
    return len(set(things)) == len(things)


def are_all_below(thing, many):
    """Whether a thing is a tuple of all whole numbers from 0 to many, less one, each once."""
    return are_below(thing, many) and len(thing) == many and are_unlike(thing)


def has_all(things, wanted):
    """Whether all that are wanted are among the things."""
    return all([one in things for one in wanted])


def is_rising(things):
    """Whether each is greater than the one ahead; the things must be comparable."""
    return all([one < other for one, other in zip(things, things[1:])])


def are_some_of(thing, numbers):
    """Whether a thing is a rising tuple of some of these whole numbers, perhaps of none."""
    if not isinstance(thing, tuple) or not all([is_whole(part) and part in numbers for part in thing]):
        return False
    return is_rising(thing)


def places_in(columns, wanted):
    """The places at which the wanted ones stand among the columns."""
    return [columns.index(column) for column in wanted]


def at_places(row, places):
    """What the row has at these places."""
    return tuple([row[place] for place in places])


def linked(labels, one, other):
    """The labels when the two places hang together; a label is the least place it stands at."""
    least = min(labels[one], labels[other])
    most = max(labels[one], labels[other])
    return tuple([least if label == most else label for label in labels])
