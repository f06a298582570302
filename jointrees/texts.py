"""Layouts and tables written as texts, and read back."""

from jointrees.errors import NoText
from jointrees.layouts import MOST_COLUMNS, is_layout
from jointrees.tables import is_table

NO_ROWS = "none"


def are_figures(text):
    """Whether a text is one or more of the figures from 0 to 9."""
    return text != "" and all([sign in "0123456789" for sign in text])


def numbers_text(numbers, between):
    """The numbers in figures, with a sign between each two."""
    return between.join([str(number) for number in numbers])


def row_text(row):
    """A row, its numbers one behind the other."""
    return numbers_text(row, "")


def layout_text(layout):
    """The text of a layout."""
    many, heads = layout
    return " ".join([str(many), ":"] + [numbers_text(head, ",") for head in heads])


def table_text(table):
    """The text of a table."""
    return " ".join([row_text(row) for row in table]) if table else NO_ROWS


def figure_of(text):
    """The number of one figure that the text is."""
    if len(text) != 1 or not are_figures(text):
        raise NoText("no number of one figure")
    return int(text)


def row_read(text):
    """The row that the text writes."""
    if not are_figures(text) or len(text) > MOST_COLUMNS:
        raise NoText("no row of one to seven figures")
    return tuple([int(sign) for sign in text])


def need_text(thing):
    """Refuse what is no text."""
    if not isinstance(thing, str):
        raise NoText("no text")


def layout_read(text):
    """The layout that the text writes."""
    need_text(text)
    words = text.split(" ")
    if len(words) < 2 or words[1] != ":":
        raise NoText("no colon behind the number of columns")
    heads = [tuple([figure_of(column) for column in word.split(",")]) for word in words[2:]]
    layout = (figure_of(words[0]), tuple(heads))
    if not is_layout(layout):
        raise NoText("no layout")
    return layout


def table_read(text):
    """The table that the text writes."""
    need_text(text)
    if text == NO_ROWS:
        return ()
    table = tuple([row_read(word) for word in text.split(" ")])
    if not is_table(table, table[0]):
        raise NoText("no table of a head")
    return table
