"""Stage 11: [111]."""

import itertools
import re
import unittest

from jointrees.errors import NoText
from jointrees.layouts import is_layout
from jointrees.texts import layout_read, layout_text, table_read, table_text
from tests import samples
from tests.samples import ALIKE, APART, LINE, ODD, ONE, PATH

SIGNS = " :,0123456789-+an\n\t;.x"


def plain_layout(text):
    """The layout that a text writes, None where it writes none, by 111."""
    if not re.fullmatch(r"[1-7] :( [0-6](,[0-6])*){1,6}", text):
        return None
    many, heads = int(text[0]), tuple(tuple(map(int, word.split(","))) for word in text.split(" ")[2:])
    good = all(list(head) == sorted(set(head)) and head[-1] < many for head in heads)
    return (many, heads) if good else None


def plain_table(text):
    """The table that a text writes, None where it writes none, by 111."""
    if text == "none":
        return ()
    if not re.fullmatch(r"[0-9]{1,7}( [0-9]{1,7})*", text):
        return None
    words = text.split(" ")
    good = len({len(word) for word in words}) == 1 and words == sorted(set(words)) and len(words) <= 625
    return tuple(tuple(map(int, word)) for word in words) if good else None


def changed(text):
    """The texts with a sign put in, left out or exchanged at any place."""
    found = set()
    for place in range(len(text) + 1):
        found |= {text[:place] + sign + text[place:] for sign in SIGNS}
        found |= {text[:place] + sign + text[place + 1:] for sign in SIGNS}
        found.add(text[:place] + text[place + 1:])
    return sorted(found)


class Texts(unittest.TestCase):
    def read(self, ask, plain, text):
        """What is read is just what is due, and is refused where nothing is."""
        due = plain(text)
        with self.subTest(text[:80]):
            if due is None:
                with self.assertRaises(NoText):
                    ask(text)
            else:
                self.assertEqual(repr(ask(text)), repr(due))

    def refused(self, ask, things):
        for thing in things:
            with self.subTest(str(thing)[:80]):
                with self.assertRaises(NoText):
                    ask(thing)


class LayoutTexts(Texts):
    def test_sign_for_sign(self):
        self.assertEqual(layout_text(LINE), "3 : 0,1 1,2")
        self.assertEqual(layout_text(ONE), "1 : 0")
        self.assertEqual(layout_text((7, ((6,),))), "7 : 6")
        self.assertEqual(layout_text(PATH), "4 : 0,1 1,2 2,3")
        self.assertEqual(layout_text(APART), "7 : 0 1 2 3 4 5,6")
        self.assertEqual(layout_text(ALIKE), "7 :" + " 0,1,2,3,4,5,6" * 6)

    def test_read(self):
        self.assertEqual(layout_read("3 : 0,1 1,2"), LINE)
        self.assertEqual(layout_read("1 : 0"), ONE)
        self.assertEqual(layout_read("7 : 6"), (7, ((6,),)))
        self.assertEqual(layout_read("2 : 0,1 0,1"), (2, ((0, 1), (0, 1))))
        self.assertEqual(layout_read("7 :" + " 0,1,2,3,4,5,6" * 6), ALIKE)

    def test_what_was_written_is_read_back(self):
        for layout in samples.small_layouts() + samples.wide_layouts(60):
            text = layout_text(layout)
            self.assertIs(type(text), str)
            self.assertEqual(layout_read(text), layout)
            self.assertIs(is_layout(layout_read(text)), True)
            self.assertEqual(plain_layout(text), layout)

    def test_a_sign_put_in_left_out_or_exchanged_at_any_place(self):
        for text in ("3 : 0,1 1,2", "1 : 0", "7 : 0,3,6 5 1,2", layout_text(ALIKE)[:60]):
            for other in changed(text):
                self.read(layout_read, plain_layout, other)

    def test_blanks(self):
        self.refused(layout_read, [" 3 : 0,1 1,2", "3 : 0,1 1,2 ", "3  : 0,1 1,2", "3 :  0,1 1,2", "3 : 0,1  1,2",
                                   "3 : 0, 1 1,2", "3 : 0 ,1 1,2", "3: 0,1 1,2", "3 :0,1 1,2", "3:0,1", "3 : 0,1\t1,2",
                                   "3 : 0,1 1,2\n", "\n3 : 0,1 1,2", " ", "  "])

    def test_words_left_out(self):
        self.refused(layout_read, ["3 :", "3 : ", "3", ": 0,1", "3 0,1 1,2", " : 0,1", "0,1 1,2", ":", "3 : : 0,1", ""])

    def test_noughts_ahead_and_other_signs(self):
        self.refused(layout_read, ["03 : 0,1 1,2", "3 : 00,1", "3 : 0,01", "+3 : 0", "3 : +0", "3 : -1", "3 : 0,,1",
                                   "3 : ,0", "3 : 0,", "3 ; 0", "3 : 0.1", "three : 0", "3 : a", "3 : 0,a", "3 : 0 ,"])

    def test_heads_that_do_not_rise_and_numbers_beyond(self):
        self.refused(layout_read, ["3 : 1,0", "3 : 0,0", "3 : 0,2,1", "3 : 0,1,1", "3 : 0 2,1", "3 : 3", "3 : 0,3",
                                   "3 : 0 3", "0 : 0", "8 : 0", "9 : 0", "10 : 0", "7 : 7", "8 : 7", "1 : 1", "12 : 0",
                                   "3 :" + " 0" * 7, "7 : 10"])
        self.assertEqual(layout_read("3 :" + " 0" * 6), (3, ((0,),) * 6))

    def test_what_is_no_text(self):
        self.refused(layout_read, ODD + [LINE, ["3 : 0,1"], ("3 : 0,1",), {"3 : 0,1": 0}])


class TableTexts(Texts):
    def test_sign_for_sign(self):
        self.assertEqual(table_text(((0, 1), (1, 2))), "01 12")
        self.assertEqual(table_text(()), "none")
        self.assertEqual(table_text(((0,),)), "0")
        self.assertEqual(table_text(((0,), (9,))), "0 9")
        self.assertEqual(table_text(((0,) * 7, (9,) * 7)), "0000000 9999999")

    def test_read(self):
        self.assertEqual(table_read("01 12"), ((0, 1), (1, 2)))
        self.assertEqual(table_read("none"), ())
        self.assertEqual(table_read("0"), ((0,),))
        self.assertEqual(table_read("0000000 9999999"), ((0,) * 7, (9,) * 7))

    def test_what_was_written_is_read_back(self):
        for layout, tables in samples.tables_near(samples.LAYOUTS, 3):
            for table in tables:
                text = table_text(table)
                self.assertIs(type(text), str)
                self.assertEqual(table_read(text), table)
                self.assertEqual(plain_table(text), table)
        for size in range(1, 8):
            table = samples.all_rows(range(size), 10)
            self.assertEqual(table_read(table_text(table)), table)

    def test_a_sign_put_in_left_out_or_exchanged_at_any_place(self):
        for text in ("01 12", "none", "0", "5 7", "012 013 999", "1234567", "0000000 0000001"):
            for other in changed(text):
                self.read(table_read, plain_table, other)

    def test_all_short_texts(self):
        for size in range(5):
            for signs in itertools.product("019 n", repeat=size):
                self.read(table_read, plain_table, "".join(signs))

    def test_blanks_and_words(self):
        self.refused(table_read, [" 01", "01 ", "01  12", "01\t12", "01\n", "", " ", "none ", " none", "None", "NONE",
                                  "none none", "none 01", "01 none", "nones", "non", "01,12", "01, 12", "-1", "+1", "1.",
                                  "0x", "a", "(0, 1)"])

    def test_rows_that_do_not_rise_or_are_unlike_in_length(self):
        self.refused(table_read, ["12 01", "01 01", "01 12 12", "01 12 11", "0 12", "01 2", "01 123", "1 01", "01 1",
                                  "9 10"])

    def test_rows_of_seven_numbers_and_of_eight(self):
        self.assertEqual(table_read("0123456"), ((0, 1, 2, 3, 4, 5, 6),))
        self.refused(table_read, ["01234567", "00000000 00000001", "0" * 40, "0" * 2600])

    def test_as_many_rows_as_may_be_and_one_more(self):
        for size in (3, 4, 7):
            rows = list(itertools.islice(itertools.product("0123456789", repeat=size), 627))
            texts = ["".join(row) for row in rows]
            for many in (624, 625):
                self.assertEqual(len(table_read(" ".join(texts[:many]))), many)
            self.refused(table_read, [" ".join(texts[:626]), " ".join(texts)])

    def test_what_is_no_text(self):
        self.refused(table_read, ODD[:3] + [thing for thing in ODD[3:] if not isinstance(thing, str)] + [((0, 1),)])
        self.refused(table_read, ["a" * 2600, ["01"], ("01",), {"01": 0}, 0, 1])
