"""Tables of a layout: what they have of some columns, whether they agree, and the rows that are joined of them."""

from jointrees.errors import NoColumn, NoTables, TooMany
from jointrees.kinds import are_below, are_some_of, at_places, is_rising, places_in
from jointrees.layouts import columns_in_heads, common, heads_of, need_head

FIGURES = 10
MOST_ROWS = 625
MOST_TOLD = 1000


def is_table(thing, head):
    """Whether a thing is a table of the head."""
    if not isinstance(thing, tuple) or len(thing) > MOST_ROWS:
        return False
    return all([are_below(row, FIGURES) and len(row) == len(head) for row in thing]) and is_rising(thing)


def are_tables(layout, thing):
    """Whether a thing of whatever kind is tables of the layout."""
    heads = layout[1]
    if not isinstance(thing, tuple) or len(thing) != len(heads):
        return False
    return all([is_table(table, head) for table, head in zip(thing, heads)])


def need_tables(layout, thing):
    """Refuse what is no tables of the layout."""
    if not are_tables(layout, thing):
        raise NoTables("no tables of the layout")


def need_few(many):
    """Refuse to tell more than may be told."""
    if many > MOST_TOLD:
        raise TooMany("more than 1000 to tell")


def part_of(head, table, columns):
    """The rising tuple of what the rows of a head's table have of some of its columns, each once."""
    places = places_in(head, columns)
    return tuple(sorted({at_places(row, places) for row in table}))


def columns_of(layout, tables, head, columns):
    """What the table of this head has of some of its columns."""
    need_tables(layout, tables)
    need_head(layout, head)
    if not are_some_of(columns, layout[1][head]):
        raise NoColumn("no rising tuple of columns of the head")
    return part_of(layout[1][head], tables[head], columns)


def two_agree(layout, tables, one, other):
    """Whether the tables of two heads have the same of the columns that both have."""
    heads = layout[1]
    shared = common(layout, one, other)
    return part_of(heads[one], tables[one], shared) == part_of(heads[other], tables[other], shared)


def all_agree(layout, tables):
    """Whether each two of what is known to be tables agree."""
    return all([two_agree(layout, tables, one, other) for other in range(len(tables)) for one in range(other)])


def agree(layout, tables):
    """Whether each two tables have the same of the columns that both heads have."""
    need_tables(layout, tables)
    return all_agree(layout, tables)


def cut(layout, tables, one, other):
    """The table of the one head, cut by that of the other one."""
    heads = layout[1]
    shared = common(layout, one, other)
    mine = places_in(heads[one], shared)
    theirs = places_in(heads[other], shared)
    there = {at_places(row, theirs) for row in tables[other]}
    return tuple([row for row in tables[one] if at_places(row, mine) in there])


def cut_once_round(layout, tables):
    """The tables when each one was cut once by each other one."""
    then = list(tables)
    for one in range(len(tables)):
        for other in range(len(tables)):
            if one != other:
                then[one] = cut(layout, then, one, other)
    return tuple(then)


def cut_all_round(layout, tables):
    """The tables without such rows as are cut by cutting round and round; all joined rows stay."""
    # A row may be cut for one that went in the round ahead. Along a join tree as
    # many rounds as heads leave nothing to cut; elsewhere what is left does no harm.
    for turn in range(len(layout[1])):
        then = cut_once_round(layout, tables)
        if then == tables:
            return tables
        tables = then
    return tables


def bound_with(heads, column):
    """The columns that the heads that have the column have all together."""
    return tuple(sorted({other for head in heads if column in head for other in head}))


def growth(heads, column):
    """By how much the heads that have the column come together to more than the largest one of them."""
    return len(bound_with(heads, column)) - max([len(head) for head in heads if column in head])


def order_behind(layout, first):
    """All columns that a head has, the first ones ahead, the others so that little is sought in vain."""
    # Where a head has all that a column hangs on, it may come last: once tables
    # agree, what stands ahead of it can always be led on to it.
    heads = layout[1]
    left = [column for column in columns_in_heads(layout) if column not in first]
    behind = ()
    while left:
        last = min([(growth(heads, column), column) for column in left])[1]
        bound = tuple([column for column in bound_with(heads, last) if column != last])
        heads = tuple([head for head in heads if last not in head]) + (bound,)
        behind = (last,) + behind
        left.remove(last)
    return first + behind


class Search:
    """Joined rows, sought column by column in an order of the columns.

    A node stands for what rows of a table may go on with, and leads by each number
    that may come next to another node. A state has a node for each table.
    """

    def __init__(self, layout, tables, order):
        self.nodes = []
        self.known = {}
        self.living = {}
        self.having = [heads_of(layout, column) for column in order]
        self.start = tuple([self.node_of_table(head, table, order) for head, table in zip(layout[1], tables)])

    def node_of_table(self, head, table, order):
        """The node that a head's table begins with."""
        places = places_in(head, [column for column in order if column in head])
        return self.node_for([at_places(row, places) for row in table])

    def node_for(self, rests):
        """The node that leads on to these rests of rows; the same rests have the same node."""
        behind = {}
        for rest in rests:
            if rest:
                behind.setdefault(rest[0], []).append(rest[1:])
        leads = {number: self.node_for(behind[number]) for number in sorted(behind)}
        key = tuple(leads.items())
        if key not in self.known:
            self.known[key] = len(self.nodes)
            self.nodes.append(leads)
        return self.known[key]

    def states_behind(self, place, state):
        """For each number that may come at this place then, rising, the state behind it."""
        leads = [self.nodes[state[head]] for head in self.having[place]]
        return {number: self.state_by(place, state, number)
                for number in leads[0] if all([number in lead for lead in leads])}

    def state_by(self, place, state, number):
        """The state behind this number at this place."""
        then = list(state)
        for head in self.having[place]:
            then[head] = self.nodes[state[head]][number]
        return tuple(then)

    def lives(self, place, state):
        """Whether what has come to this state can be led on to a joined row."""
        if place == len(self.having):
            return True
        if state not in self.living:
            self.living[state] = self.goes_on(place, state)
        return self.living[state]

    def goes_on(self, place, state):
        """Whether some state behind this one lives."""
        for then in self.states_behind(place, state).values():
            if self.lives(place + 1, then):
                return True
        return False

    def led_on(self, row, state, length, most):
        """The first ones, at most so many, of the beginnings of this length that go on from this row and live."""
        if len(row) == length:
            return [row]
        found = []
        for number, then in self.states_behind(len(row), state).items():
            if len(found) < most and self.lives(len(row) + 1, then):
                found.extend(self.led_on(row + (number,), then, length, most - len(found)))
        return found

    def beginnings(self, length, most):
        """What joined rows begin with, so many numbers long, rising; the first ones, at most so many."""
        return self.led_on((), self.start, length, most)


def some_joined(layout, tables, most):
    """Joined rows, rising: all of them, or so many where there are more."""
    order = order_behind(layout, ())
    search = Search(layout, cut_all_round(layout, tables), order)
    places = places_in(order, columns_in_heads(layout))
    return sorted([at_places(row, places) for row in search.beginnings(len(order), most)])


def joined(layout, tables):
    """The rising list of all joined rows."""
    need_tables(layout, tables)
    rows = some_joined(layout, tables, MOST_TOLD + 1)
    need_few(len(rows))
    return rows


def row_part(layout, row, head):
    """What a row of a number for each column that a head has has of the columns of this head."""
    return at_places(row, places_in(columns_in_heads(layout), layout[1][head]))


def is_joined_row(layout, tables, thing):
    """Whether a thing of whatever kind is a joined row of the tables."""
    if not are_below(thing, FIGURES) or len(thing) != len(columns_in_heads(layout)):
        return False
    return all([row_part(layout, thing, head) in table for head, table in enumerate(tables)])
