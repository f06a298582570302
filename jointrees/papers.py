"""Price papers: prices moved along a tree, which show what no joined row costs less than."""

from jointrees.counts import last_left, told_by
from jointrees.cuts import steps_to_one
from jointrees.dear import least, need_prices, prices_up
from jointrees.kinds import are_below, at_places, is_rising, is_whole, places_in
from jointrees.layouts import common
from jointrees.tables import FIGURES, part_of
from jointrees.trees import is_tree

# More than any joined row may cost: so much is put on rows that go with none.
TOO_DEAR = 10 ** 13


def is_move(thing, many):
    """Whether a thing is a tuple of so many numbers and of how much more rows with them cost."""
    if not isinstance(thing, tuple) or len(thing) != 2:
        return False
    numbers, more = thing
    return are_below(numbers, FIGURES) and len(numbers) == many and is_whole(more)


def are_moves(layout, pair, thing):
    """Whether a thing is the moves for a pair of heads."""
    many = len(common(layout, pair[0], pair[1]))
    if not isinstance(thing, tuple) or not all([is_move(move, many) for move in thing]):
        return False
    # Where the numbers rise, no two are alike, and the moves rise, too.
    return is_rising([move[0] for move in thing])


def is_paper(layout, thing):
    """Whether a thing of whatever kind is a price paper of the layout."""
    if not isinstance(thing, tuple) or len(thing) != 2:
        return False
    tree, moves = thing
    if not is_tree(layout, tree) or not isinstance(moves, tuple) or len(moves) != len(tree):
        return False
    return all([are_moves(layout, pair, some) for pair, some in zip(tree, moves)])


def costs_of(tables, prices):
    """For each head what each of its rows costs."""
    return [dict(zip(table, costs)) for table, costs in zip(tables, prices)]


def moved_by(layout, costs, head, other, more):
    """What the rows of a head cost when, for the numbers of the columns that the other one has, too, they cost more."""
    places = places_in(layout[1][head], common(layout, head, other))
    return {row: costs[row] + more.get(at_places(row, places), 0) for row in costs}


def paper_shows(layout, tables, prices, thing):
    """What a thing of whatever kind shows as a price paper, None where it is none, or a table has no row."""
    need_prices(layout, tables, prices)
    if not is_paper(layout, thing) or () in tables:
        return None
    costs = costs_of(tables, prices)
    for (one, other), moves in zip(thing[0], thing[1]):
        costs[one] = moved_by(layout, costs[one], one, other, dict(moves))
        costs[other] = moved_by(layout, costs[other], other, one, {numbers: -more for numbers, more in moves})
    return sum([min(mine.values()) for mine in costs])


def moves_to_holder(layout, tables, told, ear, holder):
    """The moves by which the holder's rows bear the price of the ear's, those that go with none of them too much."""
    folded = told_by(layout, told, ear, holder, least)
    turn = 1 if holder < ear else -1
    shared = common(layout, holder, ear)
    return tuple([(numbers, turn * folded.get(numbers, TOO_DEAR))
                  for numbers in part_of(layout[1][holder], tables[holder], shared)])


def price_paper(layout, tables, prices):
    """Some paper that shows the price of the cheapest joined row, None where there is none."""
    need_prices(layout, tables, prices)
    steps = steps_to_one(layout)
    told = prices_up(layout, steps, costs_of(tables, prices))
    if not told[last_left(steps)]:
        return None
    # Each ear's cheapest row comes to cost nothing, and the last head bears the price of all.
    moves = {(min(ear, holder), max(ear, holder)): moves_to_holder(layout, tables, told, ear, holder)
             for ear, holder in steps}
    tree = tuple(sorted(moves))
    return (tree, tuple([moves[pair] for pair in tree]))
