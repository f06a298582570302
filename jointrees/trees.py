"""Trees and join trees of a layout, their weights and the ways in them."""

from jointrees.errors import NoTree
from jointrees.kinds import is_rising, is_two_below, linked
from jointrees.layouts import common, heads_of, need_head


def is_pair(layout, thing):
    """Whether a thing is a tuple of two heads' numbers, the lesser one first."""
    return is_two_below(thing, len(layout[1])) and thing[0] < thing[1]


def has_no_ring(many, pairs):
    """Whether no pair joins two heads that hang together by the pairs ahead of it."""
    labels = tuple(range(many))
    for one, other in pairs:
        if labels[one] == labels[other]:
            return False
        labels = linked(labels, one, other)
    return True


def is_tree(layout, thing):
    """Whether a thing of whatever kind is a tree of the layout."""
    many = len(layout[1])
    if not isinstance(thing, tuple) or len(thing) != many - 1:
        return False
    if not all([is_pair(layout, pair) for pair in thing]) or not is_rising(thing):
        return False
    # So many pairs hang all heads together just where they make no ring.
    return has_no_ring(many, thing)


def hang_together(numbers, tree):
    """Whether these heads hang together by the tree's pairs among them."""
    # Pairs of a tree make no ring, so it is enough to count them.
    inner = [one for one, other in tree if one in numbers and other in numbers]
    return len(inner) >= len(numbers) - 1


def is_join_tree(layout, thing):
    """Whether a thing of whatever kind is a join tree of the layout."""
    if not is_tree(layout, thing):
        return False
    return all([hang_together(heads_of(layout, column), thing) for column in range(layout[0])])


def pair_weights(layout):
    """For each pair of heads, rising, how many columns both have."""
    many = len(layout[1])
    return {(one, other): len(common(layout, one, other))
            for one in range(many) for other in range(one + 1, many)}


def most_more(weights, labels):
    """The most that pairs weigh that hang together, without a ring, what the labels leave apart."""
    total = 0
    for one, other in sorted(weights, key=lambda pair: -weights[pair]):
        if labels[one] != labels[other]:
            labels = linked(labels, one, other)
            total += weights[(one, other)]
    return total


def first_join_tree(layout):
    """The first join tree, as tuples compare, None where there is none."""
    # Just the join trees have the due weight, so a pair is taken wherever
    # the pairs taken can still be made a tree of this weight with it.
    weights = pair_weights(layout)
    labels = tuple(range(len(layout[1])))
    due = due_weight(layout)
    if most_more(weights, labels) != due:
        return None
    taken = []
    for one, other in weights:
        weight = weights[(one, other)]
        if labels[one] != labels[other]:
            then = linked(labels, one, other)
            if weight + most_more(weights, then) == due:
                taken.append((one, other))
                labels = then
                due -= weight
    return tuple(taken)


def trees_from(taken, missing, labels, pairs):
    """The rising list of all trees that begin with the pairs taken and go on by so many of these."""
    if missing == 0:
        return [taken]
    found = []
    for place, (one, other) in enumerate(pairs):
        if labels[one] != labels[other]:
            then = linked(labels, one, other)
            found.extend(trees_from(taken + ((one, other),), missing - 1, then, pairs[place + 1:]))
    return found


def all_join_trees(layout):
    """The rising list of all join trees."""
    weights = pair_weights(layout)
    labels = tuple(range(len(layout[1])))
    due = due_weight(layout)
    if most_more(weights, labels) != due:
        return []
    trees = trees_from((), len(labels) - 1, labels, list(weights))
    return [tree for tree in trees if sum([weights[pair] for pair in tree]) == due]


def many_join_trees(layout):
    """How many join trees there are."""
    return len(all_join_trees(layout))


def need_tree(layout, thing):
    """Refuse what is no tree of the layout."""
    if not is_tree(layout, thing):
        raise NoTree("no tree of the layout")


def weight_of(layout, tree):
    """How many columns the two heads of each pair have in common, all together."""
    need_tree(layout, tree)
    return sum([len(common(layout, one, other)) for one, other in tree])


def due_weight(layout):
    """For all columns that a head has together, how many heads have it, less one."""
    return sum([max(len(heads_of(layout, column)) - 1, 0) for column in range(layout[0])])


def beside_in(tree, head):
    """The heads that are in a pair with this one."""
    return [one + other - head for one, other in tree if head in (one, other)]


def way_on(tree, way, goal):
    """The way led on to the goal, None where it cannot be."""
    if way[-1] == goal:
        return way
    for head in beside_in(tree, way[-1]):
        if head not in way:
            found = way_on(tree, way + (head,), goal)
            if found is not None:
                return found
    return None


def way_in(layout, tree, one, other):
    """The tuple of heads on the tree's way from the one head to the other one."""
    need_tree(layout, tree)
    need_head(layout, one)
    need_head(layout, other)
    return way_on(tree, (one,), other)
