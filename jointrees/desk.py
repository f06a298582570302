"""A desk that keeps a layout and tables of it: it is told rows of words, and answers each with a text."""

from jointrees.counts import joined_at, many_joined
from jointrees.errors import NoRow, NoTables, NoText
from jointrees.layouts import need_head
from jointrees.nests import first_nests
from jointrees.tables import MOST_ROWS, agree, joined
from jointrees.texts import (are_figures, figure_of, layout_read, layout_text, numbers_text, row_read, row_text,
                             table_text)
from jointrees.trees import first_join_tree

MOST_FIGURES = 9
# The words that stand behind the first one of a row; only a layout has more of them or fewer.
WORDS_BEHIND = {
    "put": ("H", "ROW"), "take": ("H", "ROW"), "undo": (), "show": (), "table": ("H",), "tree": (), "nests": (),
    "agree": (), "joined": (), "many": (), "at": ("N",),
}


def number_read(text):
    """The number of one to nine figures that the text writes."""
    if not are_figures(text) or len(text) > MOST_FIGURES or text != str(int(text)):
        raise NoText("no number of one to nine figures")
    return int(text)


def word_read(kind, word):
    """What a word behind the first one tells."""
    if kind == "H":
        return figure_of(word)
    if kind == "ROW":
        return row_read(word)
    return number_read(word)


def words_read(row):
    """The first word of a row, and the list of what those behind it tell."""
    if not isinstance(row, str):
        raise NoText("no text")
    first, *words = row.split(" ")
    if first == "layout":
        return first, [layout_read(" ".join(words))]
    if first not in WORDS_BEHIND or len(words) != len(WORDS_BEHIND[first]):
        raise NoText("no row of a desk")
    return first, [word_read(kind, word) for kind, word in zip(WORDS_BEHIND[first], words)]


def row_or_refusal(row):
    """What a row tells, refused with NoRow where it is none of a desk."""
    try:
        return words_read(row)
    except NoText:
        raise NoRow("no row of a desk, or a word in it is not so written") from None


def with_table(tables, head, table):
    """The tables with another one for this head."""
    return tables[:head] + (table,) + tables[head + 1:]


def lay_out(layout, tables, things):
    """Another layout, and tables of it without rows."""
    heads = things[0][1]
    return things[0], tuple([() for head in heads])


def put_row(layout, tables, things):
    """The layout, and the tables with a row more."""
    head, row = things
    need_head(layout, head)
    table = tables[head]
    if len(row) != len(layout[1][head]) or row in table or len(table) == MOST_ROWS:
        raise NoTables("the row can't come to the table")
    return layout, with_table(tables, head, tuple(sorted(table + (row,))))


def take_row(layout, tables, things):
    """The layout, and the tables with a row less."""
    head, row = things
    need_head(layout, head)
    if row not in tables[head]:
        raise NoTables("the row is not in the table")
    return layout, with_table(tables, head, tuple([other for other in tables[head] if other != row]))


def show_layout(layout, tables, things):
    """The layout."""
    return layout_text(layout)


def show_table(layout, tables, things):
    """The table of a head."""
    need_head(layout, things[0])
    return table_text(tables[things[0]])


def show_tree(layout, tables, things):
    """The pairs of the first join tree."""
    tree = first_join_tree(layout)
    if tree is None:
        return "none"
    return " ".join([f"{one}-{other}" for one, other in tree]) if tree else "alone"


def show_nests(layout, tables, things):
    """The columns of the first row of nests."""
    row = first_nests(layout)
    return "none" if row is None else numbers_text(row, " ")


def show_agree(layout, tables, things):
    """Whether the tables agree."""
    return "yes" if agree(layout, tables) else "no"


def show_joined(layout, tables, things):
    """The joined rows."""
    return table_text(joined(layout, tables))


def show_many(layout, tables, things):
    """How many joined rows there are."""
    return str(many_joined(layout, tables))


def show_at(layout, tables, things):
    """The joined row of a number."""
    return row_text(joined_at(layout, tables, things[0]))


DEEDS = {"layout": lay_out, "put": put_row, "take": take_row}
ASKS = {
    "show": show_layout, "table": show_table, "tree": show_tree, "nests": show_nests, "agree": show_agree,
    "joined": show_joined, "many": show_many, "at": show_at,
}


class Desk:
    """A layout, tables of it, and what stood ahead of each deed that stands."""

    def __init__(self):
        self.layout = (1, ((0,),))
        self.tables = ((),)
        self.ahead = []

    def say(self, row):
        """The answer to a row."""
        first, things = row_or_refusal(row)
        if first == "undo":
            return self.undone()
        if first in DEEDS:
            deed = DEEDS[first]
            return self.done(deed(self.layout, self.tables, things))
        ask = ASKS[first]
        return ask(self.layout, self.tables, things)

    def done(self, then):
        """The answer to a deed by which the layout and the tables are these then."""
        self.ahead.append((self.layout, self.tables))
        self.layout, self.tables = then
        return "ok"

    def undone(self):
        """The answer when the last deed that stands is undone."""
        if not self.ahead:
            raise NoRow("there is no deed to undo")
        self.layout, self.tables = self.ahead.pop()
        return "ok"
