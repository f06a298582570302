"""Joined rows counted along a join tree without being written out."""

from jointrees.cuts import cut_along, deeds_by, steps_to_one
from jointrees.errors import NoColumn, NoNumber, NoRow
from jointrees.kinds import are_some_of, at_places, is_below, places_in
from jointrees.layouts import columns_in_heads, common, heads_of
from jointrees.tables import FIGURES, is_joined_row, need_few, need_tables


def last_left(steps):
    """The head that is left by steps by which all others go."""
    return steps[-1][1] if steps else 0


def keys_for(layout, rows, one, other):
    """What each row of the one head has of the columns that the other one has, too."""
    places = places_in(layout[1][one], common(layout, one, other))
    return {row: at_places(row, places) for row in rows}


def told_by(layout, told, one, other, fold):
    """What is told of the one head's rows, folded for those that have the same of the columns that both heads have."""
    keys = keys_for(layout, told[one], one, other)
    lots = {}
    for row in keys:
        lots.setdefault(keys[row], []).append(told[one][row])
    return {key: fold(lots[key]) for key in lots}


def told_up(layout, steps, told, fold, both):
    """What is told of each row of each head, together with what the ears that went by it tell.

    Rows that go with no row of such an ear are left out. Fold makes one of a list of
    what is told of one head's rows, both one of what is told of rows of two heads.
    """
    then = list(told)
    for ear, holder in steps:
        folded = told_by(layout, then, ear, holder, fold)
        keys = keys_for(layout, then[holder], holder, ear)
        mine = then[holder]
        then[holder] = {row: both(mine[row], folded[keys[row]]) for row in mine if keys[row] in folded}
    return then


def total(lot):
    """All of the lot added up."""
    return sum(lot)


def product(one, other):
    """Each of the one with each of the other."""
    return one * other


def many_up(layout, tables, steps):
    """For each row of each head how many joined rows of it and of the heads that went by it there are."""
    ones = [{row: 1 for row in table} for table in tables]
    return told_up(layout, steps, ones, total, product)


def many_of(layout, tables, steps):
    """How many joined rows there are."""
    return sum(many_up(layout, tables, steps)[last_left(steps)].values())


def many_for_rows(layout, tables, steps):
    """For each row of each head in how many joined rows it is; rows in none may be left out."""
    many = many_up(layout, tables, steps)
    for ear, holder in reversed(steps):
        mine = told_by(layout, many, ear, holder, total)
        theirs = told_by(layout, many, holder, ear, total)
        keys = keys_for(layout, many[ear], ear, holder)
        # Each choice for the ear's rows of one key goes with each for all the other heads.
        many[ear] = {row: many[ear][row] * theirs[keys[row]] // mine[keys[row]]
                     for row in many[ear] if keys[row] in theirs}
    return many


def many_by_number(layout, tables, steps, column):
    """For each number that joined rows have at the column how many have it."""
    head = heads_of(layout, column)[0]
    rows = many_for_rows(layout, tables, steps)[head]
    place = layout[1][head].index(column)
    many = {}
    for row in rows:
        many[row[place]] = many.get(row[place], 0) + rows[row]
    return many


def many_lesser(many, number):
    """How many joined rows have a lesser number, by how many have each."""
    return sum([many[other] for other in many if other < number])


def rows_with(head, table, column, number):
    """The rows of a head's table that have the number at the column, all where the head has not the column."""
    if column not in head:
        return table
    place = head.index(column)
    return tuple([row for row in table if row[place] == number])


def tables_with(layout, tables, column, number):
    """The tables without the rows that have another number at the column."""
    return tuple([rows_with(head, table, column, number) for head, table in zip(layout[1], tables)])


def many_joined(layout, tables):
    """How many joined rows there are."""
    steps = steps_to_one(layout)
    need_tables(layout, tables)
    return many_of(layout, tables, steps)


def joined_at(layout, tables, number):
    """The joined row of this number."""
    steps = steps_to_one(layout)
    need_tables(layout, tables)
    if not is_below(number, many_of(layout, tables, steps)):
        raise NoNumber("no number of a joined row")
    row = ()
    for column in columns_in_heads(layout):
        many = many_by_number(layout, tables, steps, column)
        figure = max([other for other in many if many_lesser(many, other) <= number])
        number -= many_lesser(many, figure)
        tables = tables_with(layout, tables, column, figure)
        row += (figure,)
    return row


def number_of(layout, tables, row):
    """The number of this joined row."""
    steps = steps_to_one(layout)
    need_tables(layout, tables)
    if not is_joined_row(layout, tables, row):
        raise NoRow("no joined row")
    number = 0
    for column, figure in zip(columns_in_heads(layout), row):
        number += many_lesser(many_by_number(layout, tables, steps, column), figure)
        tables = tables_with(layout, tables, column, figure)
    return number


def is_saying(layout, thing):
    """Whether a thing of whatever kind is a saying."""
    if not isinstance(thing, tuple) or not all([isinstance(pair, tuple) and len(pair) == 2 for pair in thing]):
        return False
    columns = tuple([pair[0] for pair in thing])
    return are_some_of(columns, columns_in_heads(layout)) and all([is_below(pair[1], FIGURES) for pair in thing])


def many_saying(layout, tables, saying):
    """How many joined rows have all numbers of the saying at its columns."""
    steps = steps_to_one(layout)
    need_tables(layout, tables)
    if not is_saying(layout, saying):
        raise NoColumn("no saying of columns that a head has")
    for column, number in saying:
        tables = tables_with(layout, tables, column, number)
    return many_of(layout, tables, steps)


def weights_of(columns):
    """For each column what its number counts where the numbers of all are written as one."""
    weights = {}
    weight = 1
    for column in reversed(columns):
        weights[column] = weight
        weight *= FIGURES
    return weights


def numbers_in(code, columns):
    """The numbers of the columns that are written as one."""
    weights = weights_of(columns)
    return tuple([code // weights[column] % FIGURES for column in columns])


def code_of(head, row, weights):
    """What the row of a head adds to the numbers that are written as one."""
    return sum([number * weights[column] for column, number in zip(head, row) if column in weights])


def codes_for(layout, tables, steps, columns):
    """For each row of each head what it adds to the numbers of the columns, written as one; each column counts once."""
    weights = weights_of(columns)
    holders = dict(steps)
    codes = []
    for number, head in enumerate(layout[1]):
        # What an ear shares with any head left its holder has, too: there it counts.
        later = layout[1][holders[number]] if number in holders else ()
        mine = {column: weights[column] for column in columns if column not in later}
        codes.append({row: code_of(head, row, mine) for row in tables[number]})
    return codes


def codes_of_all(lot):
    """The codes that lists of them have, each once."""
    codes = sorted({code for some in lot for code in some})
    need_few(len(codes))
    return codes


def codes_of_both(one, other):
    """The codes of each of the one with each of the other; no two are alike, as no column counts in both."""
    need_few(len(one) * len(other))
    return [mine + theirs for mine in one for theirs in other]


def joined_columns(layout, tables, columns):
    """The rising list of what joined rows have of the columns, each once."""
    steps = steps_to_one(layout)
    need_tables(layout, tables)
    if not are_some_of(columns, columns_in_heads(layout)):
        raise NoColumn("no rising tuple of columns that a head has")
    # Once cut down, each code that comes up on the way is part of one that is told:
    # so where there are too many on the way, there are too many in the end.
    left = cut_along(layout, tables, deeds_by(steps))
    codes = [{row: [mine[row]] for row in mine} for mine in codes_for(layout, left, steps, columns)]
    told = told_up(layout, steps, codes, codes_of_all, codes_of_both)[last_left(steps)]
    return [numbers_in(code, columns) for code in codes_of_all(list(told.values()))]
