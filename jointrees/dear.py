"""Prices of tables, and the cheapest joined row, found along a join tree."""

from jointrees.counts import codes_for, last_left, numbers_in, told_up
from jointrees.cuts import steps_to_one
from jointrees.errors import NoNumber, NoRow
from jointrees.kinds import are_below
from jointrees.layouts import columns_in_heads
from jointrees.tables import is_joined_row, need_tables, row_part

MOST_PRICE = 10 ** 12
# More than all rows of numbers, written as one, that the columns of a layout may have.
CODES = 10 ** 7


def are_row_prices(table, thing):
    """Whether a thing is a tuple with a price for each row of the table."""
    return are_below(thing, MOST_PRICE + 1) and len(thing) == len(table)


def are_prices(layout, tables, thing):
    """Whether a thing of whatever kind is prices of the tables."""
    need_tables(layout, tables)
    if not isinstance(thing, tuple) or len(thing) != len(tables):
        return False
    return all([are_row_prices(table, costs) for table, costs in zip(tables, thing)])


def need_prices(layout, tables, prices):
    """Refuse what is no tables of the layout, then what is no prices of them."""
    if not are_prices(layout, tables, prices):
        raise NoNumber("no prices of the tables")


def price_of(layout, tables, prices, row):
    """The price of a joined row."""
    need_prices(layout, tables, prices)
    if not is_joined_row(layout, tables, row):
        raise NoRow("no joined row")
    return sum([prices[head][table.index(row_part(layout, row, head))] for head, table in enumerate(tables)])


def least(lot):
    """The least one of the lot."""
    return min(lot)


def both_prices(one, other):
    """What both cost together."""
    return one + other


def prices_up(layout, steps, costs):
    """What each row of each head costs together with the cheapest rows of the ears that went by it."""
    return told_up(layout, steps, costs, least, both_prices)


def costs_with_codes(layout, tables, prices, steps):
    """For each row of each head its price and, behind it, what it adds to a joined row's numbers, written as one."""
    codes = codes_for(layout, tables, steps, columns_in_heads(layout))
    return [{row: price * CODES + mine[row] for row, price in zip(table, costs)}
            for table, costs, mine in zip(tables, prices, codes)]


def cheapest(layout, tables, prices):
    """The price and the row of the cheapest joined row, the first one of several, None where there is none."""
    need_prices(layout, tables, prices)
    steps = steps_to_one(layout)
    # The numbers behind the price tell the least one of those that cost the same.
    costs = prices_up(layout, steps, costs_with_codes(layout, tables, prices, steps))[last_left(steps)]
    if not costs:
        return None
    price, code = divmod(min(costs.values()), CODES)
    return (price, numbers_in(code, columns_in_heads(layout)))
