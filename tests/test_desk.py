"""Stage 11: [112]."""

import itertools
import random
import unittest

from jointrees.desk import Desk
from jointrees.errors import Bound, JoinError, NoHead, NoNumber, NoRow, NoTables, TooMany
from jointrees.texts import layout_text
from tests import samples
from tests.samples import LINE, ODD, ONE, PATH, RING, STAR, TRIANGLE

WORDS = ["layout", "put", "take", "undo", "show", "table", "tree", "nests", "agree", "joined", "many", "at"]
ASKS = ["show", "table 0", "tree", "nests", "agree", "joined", "many", "at 0"]


def laid_out(layout, tables=None):
    """A desk with this layout, and these tables put row by row."""
    desk = Desk()
    desk.say("layout " + layout_text(layout))
    for head, table in enumerate(tables or ()):
        for row in table:
            desk.say(f"put {head} {''.join(map(str, row))}")
    return desk


def answers(desk):
    """What a desk tells of all it keeps, refusals by their names."""
    found = []
    for ask in ASKS + [f"table {head}" for head in range(1, 7)]:
        try:
            found.append(desk.say(ask))
        except JoinError as why:
            found.append(type(why).__name__)
    return found


class Desks(unittest.TestCase):
    def said(self, desk, *rows_and_answers):
        for row, due in rows_and_answers:
            with self.subTest(row[:60]):
                if isinstance(due, str):
                    told = desk.say(row)
                    self.assertIs(type(told), str)
                    self.assertEqual(told, due)
                else:
                    self.refused(desk, due, row)

    def refused(self, desk, why, *rows):
        for row in rows:
            before = answers(desk)
            with self.subTest(str(row)[:60]):
                with self.assertRaises(why):
                    desk.say(row)
            self.assertEqual(answers(desk), before)


class Rows(Desks):
    def test_at_first(self):
        self.said(Desk(), ("show", "1 : 0"), ("table 0", "none"), ("tree", "alone"), ("nests", "0"), ("agree", "yes"),
                  ("joined", "none"), ("many", "0"), ("at 0", NoNumber), ("undo", NoRow), ("table 1", NoHead))

    def test_layouts(self):
        desk = Desk()
        self.said(desk, ("layout 3 : 0,1 1,2", "ok"), ("show", "3 : 0,1 1,2"), ("table 0", "none"), ("table 1", "none"),
                  ("table 2", NoHead), ("put 0 01", "ok"), ("layout 3 : 0,1 1,2", "ok"), ("table 0", "none"),
                  ("layout 7 : 6", "ok"), ("show", "7 : 6"))
        for layout in samples.LAYOUTS:
            self.said(desk, ("layout " + layout_text(layout), "ok"), ("show", layout_text(layout)))
            for head in range(len(layout[1])):
                self.said(desk, (f"table {head}", "none"))
            self.said(desk, (f"table {len(layout[1])}", NoHead))

    def test_no_layout(self):
        texts = ["", " ", "3", "3 :", "3 : ", "3 : 1,0", "3 : 3", "8 : 0", "0 : 0", " 3 : 0", "3 : 0 ", "3  : 0", "3 : 0,",
                 "3 : 0  1", "03 : 0", "3 : 00", "3: 0", "x", "none", "3 :" + " 0" * 7, "3 : 0\n", "10 : 0"]
        desk = laid_out(LINE, (((0, 1),), ()))
        self.refused(desk, NoRow, "layout", "layout3 : 0", "layout  3 : 0", "Layout 3 : 0", "layouts 3 : 0",
                     *["layout " + text for text in texts])
        self.said(desk, ("show", "3 : 0,1 1,2"), ("table 0", "01"))

    def test_rows_put_and_taken(self):
        desk = laid_out(LINE)
        self.said(desk, ("put 0 12", "ok"), ("put 0 01", "ok"), ("put 0 99", "ok"), ("put 0 10", "ok"),
                  ("table 0", "01 10 12 99"), ("table 1", "none"), ("put 1 01", "ok"), ("table 1", "01"),
                  ("take 0 10", "ok"), ("table 0", "01 12 99"), ("take 0 01", "ok"), ("take 0 99", "ok"),
                  ("table 0", "12"), ("take 0 12", "ok"), ("table 0", "none"), ("table 1", "01"), ("put 0 12", "ok"),
                  ("table 0", "12"))

    def test_a_row_that_is_there_or_not_there(self):
        desk = laid_out(LINE, (((0, 1), (1, 2)), ((1, 2),)))
        self.refused(desk, NoTables, "put 0 01", "put 0 12", "put 1 12", "take 0 00", "take 0 21", "take 1 01")
        self.said(desk, ("take 0 01", "ok"))
        self.refused(desk, NoTables, "take 0 01")

    def test_a_row_too_long_or_too_short(self):
        desk = laid_out(LINE, (((0, 1),), ()))
        self.refused(desk, NoTables, "put 0 0", "put 0 012", "put 0 0123456", "put 1 1", "put 1 123", "take 0 0",
                     "take 0 012", "take 0 1", "take 1 0")
        desk = laid_out((7, ((0, 1, 2, 3, 4, 5, 6), (0,))))
        self.said(desk, ("put 0 0123456", "ok"), ("put 1 0", "ok"), ("put 1 01", NoTables), ("put 0 012345", NoTables),
                  ("put 0 01234567", NoRow))

    def test_the_626th(self):
        desk = laid_out((4, ((0, 1, 2, 3), (0, 1, 2))))
        rows = ["".join(row) for row in itertools.islice(itertools.product("0123456789", repeat=4), 626)]
        for row in rows[:625]:
            self.assertEqual(desk.say(f"put 0 {row}"), "ok")
        self.assertEqual(desk.say("table 0"), " ".join(rows[:625]))
        self.refused(desk, NoTables, f"put 0 {rows[625]}", f"put 0 {rows[0]}", "put 0 0", "take 0 9999")
        self.said(desk, ("put 1 000", "ok"), (f"take 0 {rows[7]}", "ok"), (f"put 0 {rows[625]}", "ok"),
                  (f"put 0 {rows[7]}", NoTables), ("undo", "ok"), (f"put 0 {rows[7]}", "ok"),
                  ("table 0", " ".join(rows[:625])))
        for _ in range(628):
            self.assertEqual(desk.say("undo"), "ok")
        self.said(desk, ("show", "4 : 0,1,2,3 0,1,2"), ("table 0", "none"), ("table 1", "none"), ("undo", "ok"),
                  ("show", "1 : 0"), ("undo", NoRow))

    def test_heads_that_are_none(self):
        desk = laid_out(LINE, (((0, 1),), ()))
        for head in range(2, 10):
            self.refused(desk, NoHead, f"put {head} 01", f"take {head} 01", f"table {head}", f"put {head} 0",
                         f"put {head} 0123456")
        self.said(desk, ("table 0", "01"), ("table 1", "none"))

    def test_what_is_refused_ahead_of_all_else(self):
        desk = laid_out(LINE, (((0, 1),), ()))
        for head in ("00", "01", "10", "-1", "+1", "a", "", "1.", "2 3", "H", "0\n", "99"):
            self.refused(desk, NoRow, f"put {head} 01", f"take {head} 01", f"table {head}")
        for row in ("", "a", "0a", "-1", "none", "01 12", "01,", "0 1", "ROW", "01234567", "01\n", "(0,1)", " 01", "01 "):
            for head in (0, 1, 9):
                self.refused(desk, NoRow, f"put {head} {row}", f"take {head} {row}")

    def test_blanks_and_words_written_otherwise(self):
        desk = laid_out(LINE, (((0, 1),), ((1, 2),)))
        for row in ("undo", "show", "table 0", "tree", "nests", "agree", "joined", "many", "at 0", "put 0 11", "take 0 01"):
            self.refused(desk, NoRow, " " + row, "  " + row, row + " ", row + "  ", row + "\n", "\n" + row, row + "\t",
                         row.upper(), row.title(), row + " 0", row + " x", row + "x", row[:1], row + ",", row[1:])
        for row in ("table 0", "at 0", "put 0 11", "take 0 01"):
            self.refused(desk, NoRow, row.replace(" ", "  "), row.replace(" ", "  ", 1), row.replace(" ", "\t"),
                         row.replace(" ", ""), row.replace(" ", ","), "  ".join(row.rsplit(" ", 1)))

    def test_words_more_or_fewer_or_unknown(self):
        desk = laid_out(LINE, (((0, 1),), ((1, 2),)))
        self.refused(desk, NoRow, "", " ", "put", "put 0", "put 01", "put 0 11 0", "take", "take 0", "take 0 01 01",
                     "undo 0", "undo undo", "show 0", "table", "table 0 1", "tree 0", "nests 0", "agree 0", "joined 0",
                     "many 0", "at", "at 0 0", "hello", "put 0 11;", "3 : 0", "none", "ok", "redo", "columns", "pairs")

    def test_what_is_no_text(self):
        desk = laid_out(LINE, (((0, 1),), ((1, 2),)))
        self.refused(desk, NoRow, *ODD)
        self.refused(desk, NoRow, ["show"], ("show",), {"show": "show"}, ["s", "h", "o", "w"], "a" * 2600, [], None)

    def test_numbers(self):
        desk = laid_out(LINE, (((0, 1),), ((1, 2), (1, 3))))
        self.said(desk, ("at 0", "012"), ("at 1", "013"))
        self.refused(desk, NoNumber, "at 2", "at 3", "at 10", "at 99", "at 123456789", "at 999999999", "at 100000000")
        self.refused(desk, NoRow, "at 1234567890", "at 1000000000", "at 0000000000", "at 00", "at 01", "at 000000001",
                     "at -1", "at +1", "at 1.0", "at a", "at ", "at  1", "at 1 ", "at", "at 0x1", "at 1_0", "at 012")

    def test_trees(self):
        for layout, due in ((ONE, "alone"), (LINE, "0-1"), (PATH, "0-1 1-2"), (STAR, "0-1 0-2"), (TRIANGLE, "none"),
                            (RING, "none"), (samples.APART, "0-1 0-2 0-3 0-4 0-5"), ((7, ((2, 4, 6),)), "alone")):
            self.said(laid_out(layout), ("tree", due))

    def test_nests(self):
        for layout, due in ((ONE, "0"), (LINE, "0 1 2"), ((7, ((6,),)), "6"), (TRIANGLE, "none"), (RING, "none"),
                            ((5, ((0, 2), (2, 4), (4,))), "0 2 4"), (samples.COVERED, "none"),
                            ((4, ((0, 1), (0, 2), (0, 3))), "1 2 0 3"), (samples.ALIKE, "0 1 2 3 4 5 6")):
            self.said(laid_out(layout), ("nests", due))

    def test_agree(self):
        desk = laid_out(LINE)
        self.said(desk, ("agree", "yes"), ("put 0 01", "ok"), ("agree", "no"), ("put 1 15", "ok"), ("agree", "yes"),
                  ("put 1 16", "ok"), ("agree", "yes"), ("put 1 26", "ok"), ("agree", "no"), ("put 0 02", "ok"),
                  ("agree", "yes"))

    def test_joined_many_at(self):
        desk = laid_out(LINE, (((0, 1), (2, 1), (2, 4)), ((1, 5), (1, 6), (4, 4))))
        self.said(desk, ("joined", "015 016 215 216 244"), ("many", "5"), ("at 0", "015"), ("at 3", "216"),
                  ("at 4", "244"), ("at 5", NoNumber), ("take 0 21", "ok"), ("joined", "015 016 244"), ("many", "3"),
                  ("at 2", "244"), ("at 3", NoNumber), ("take 1 15", "ok"), ("take 1 16", "ok"), ("take 1 44", "ok"),
                  ("joined", "none"), ("many", "0"), ("at 0", NoNumber))
        gapped = laid_out(samples.GAPPED, (((1, 2),), ((2, 3), (2, 4)), ((3,), (4,))))
        self.said(gapped, ("joined", "123 124"), ("many", "2"), ("at 1", "124"))

    def test_where_there_is_no_join_tree(self):
        desk = laid_out(TRIANGLE, (((0, 1),), ((1, 2),), ((0, 2),)))
        self.said(desk, ("many", Bound), ("at 0", Bound), ("at 9", Bound), ("joined", "012"), ("agree", "yes"),
                  ("tree", "none"), ("at 00", NoRow))

    def test_two_thousand_joined_rows(self):
        tens = tuple((k,) for k in range(10))
        desk = laid_out((4, ((0,), (1,), (2,), (3,))), (tens, tens, tens, ((4,),)))
        self.said(desk, ("many", "1000"), ("put 3 7", "ok"), ("many", "2000"), ("joined", TooMany), ("at 0", "0004"),
                  ("at 1", "0007"), ("at 1234", "6174"), ("at 1999", "9997"), ("at 2000", NoNumber), ("undo", "ok"),
                  ("many", "1000"), ("at 999", "9994"), ("at 1000", NoNumber))
        self.assertEqual(desk.say("joined"), " ".join(f"{k:03}4" for k in range(1000)))
        for _ in range(31):
            self.said(desk, ("undo", "ok"))
        self.said(desk, ("show", "4 : 0 1 2 3"), ("many", "0"), ("undo", "ok"), ("show", "1 : 0"), ("undo", NoRow))


class Undo(Desks):
    def test_each_deed(self):
        desk = laid_out(LINE)
        self.said(desk, ("put 0 01", "ok"), ("undo", "ok"), ("table 0", "none"), ("put 0 01", "ok"), ("put 0 02", "ok"),
                  ("take 0 01", "ok"), ("table 0", "02"), ("undo", "ok"), ("table 0", "01 02"), ("undo", "ok"),
                  ("table 0", "01"), ("undo", "ok"), ("table 0", "none"), ("undo", "ok"), ("show", "1 : 0"),
                  ("undo", NoRow))

    def test_a_layout_with_its_tables(self):
        desk = laid_out(LINE, (((0, 1),), ((1, 2), (3, 4))))
        self.said(desk, ("layout 2 : 0 1", "ok"), ("put 1 5", "ok"), ("undo", "ok"), ("undo", "ok"),
                  ("show", "3 : 0,1 1,2"), ("table 0", "01"), ("table 1", "12 34"), ("layout 3 : 0,1 1,2", "ok"),
                  ("table 0", "none"), ("undo", "ok"), ("table 0", "01"))

    def test_undo_itself_is_not_undone(self):
        desk = laid_out(LINE)
        self.said(desk, ("put 0 01", "ok"), ("put 0 02", "ok"), ("undo", "ok"), ("undo", "ok"), ("table 0", "none"),
                  ("put 0 03", "ok"), ("undo", "ok"), ("undo", "ok"), ("show", "1 : 0"), ("undo", NoRow), ("undo", NoRow))

    def test_refused_rows_and_asks_are_not_undone(self):
        desk = laid_out(LINE)
        self.said(desk, ("put 0 01", "ok"), ("put 0 01", NoTables), ("put 9 01", NoHead), ("put 0", NoRow),
                  ("show", "3 : 0,1 1,2"), ("many", "0"), ("at 5", NoNumber), ("layout 3 : 9", NoRow), ("take 0 05", NoTables), ("undo", "ok"),
                  ("table 0", "none"), ("show", "3 : 0,1 1,2"), ("undo", "ok"), ("show", "1 : 0"), ("undo", NoRow))

    def test_one_behind_the_other_till_there_is_none(self):
        draw = random.Random(80)
        desk = Desk()
        states = [answers(desk)]
        for _ in range(300):
            row = draw.choice([f"put {draw.randrange(3)} {draw.randrange(4)}{draw.randrange(4)}",
                               f"take {draw.randrange(3)} {draw.randrange(4)}{draw.randrange(4)}",
                               f"put 0 {draw.randrange(10)}", "layout 3 : 0,1 1,2 0,2" if draw.random() < .1 else "many"])
            try:
                if desk.say(row) == "ok":
                    states.append(answers(desk))
            except JoinError:
                self.assertEqual(answers(desk), states[-1])
        self.assertGreater(len(states), 60)
        while len(states) > 1:
            self.assertEqual(answers(desk), states.pop())
            self.assertEqual(desk.say("undo"), "ok")
        self.assertEqual(answers(desk), states[0])
        self.refused(desk, NoRow, "undo")


class Plain:
    """A desk by the words of the point, kept in sets: it tells an answer, or the class by which it is refused."""

    def __init__(self):
        self.layout, self.sets, self.past = ONE, [set()], []

    def tables(self):
        return tuple(tuple(sorted(rows)) for rows in self.sets)

    def say(self, row):
        word, *rest = row.split(" ")
        copy = (self.layout, [set(rows) for rows in self.sets])
        if word == "undo":
            if not self.past:
                return NoRow
            self.layout, self.sets = self.past.pop()
            return "ok"
        if word == "layout":
            many, colon, *heads = rest
            self.layout = (int(many), tuple(tuple(map(int, head.split(","))) for head in heads))
            self.sets = [set() for _ in heads]
            self.past.append(copy)
            return "ok"
        if word in ("put", "take", "table") and int(rest[0]) >= len(self.sets):
            return NoHead
        return self.row(word, rest, copy) if word in ("put", "take") else self.ask(word, rest)

    def row(self, word, rest, copy):
        head, row = int(rest[0]), tuple(map(int, rest[1]))
        there = row in self.sets[head]
        if len(row) != len(self.layout[1][head]) or there == (word == "put"):
            return NoTables
        (self.sets[head].add if word == "put" else self.sets[head].remove)(row)
        self.past.append(copy)
        return "ok"

    def ask(self, word, rest):
        rows = samples.plain_joined(self.layout, self.tables())
        texts = ["".join(map(str, row)) for row in rows]
        treed = samples.has_join_tree(self.layout)
        if word == "show":
            return f"{self.layout[0]} : " + " ".join(",".join(map(str, head)) for head in self.layout[1])
        if word == "table":
            return " ".join("".join(map(str, row)) for row in sorted(self.sets[int(rest[0])])) or "none"
        if word == "agree":
            return "yes" if samples.plain_agree(self.layout, self.tables()) else "no"
        if word == "joined":
            return TooMany if len(rows) > 1000 else " ".join(texts) or "none"
        if word == "many":
            return str(len(rows)) if treed else Bound
        if word == "at":
            return Bound if not treed else texts[int(rest[0])] if int(rest[0]) < len(rows) else NoNumber
        if word == "tree":
            trees = [tree for tree in samples.plain_trees(self.layout) if samples.joins(self.layout, tree)]
            return " ".join(f"{a}-{b}" for a, b in trees[0]) or "alone" if trees else "none"
        nests = samples.first_of(samples.rows_of_nests(self.layout))
        return "none" if nests is None else " ".join(map(str, nests))


class ByTheWords(Desks):
    def rows(self, draw):
        layouts = [LINE, PATH, TRIANGLE, STAR, RING, samples.GAPPED, samples.TWINS, samples.WITHIN, ONE]
        while True:
            layout = draw.choice(layouts)
            yield "layout " + layout_text(layout)
            for _ in range(60):
                head = draw.randrange(len(layout[1]) + (draw.random() < .1))
                size = len(layout[1][head]) if head < len(layout[1]) and draw.random() < .9 else draw.randint(1, 4)
                row = "".join(str(draw.randrange(3)) for _ in range(size))
                yield draw.choice(["put", "put", "put", "take"]) + f" {head} {row}"
                yield draw.choice(["show", "tree", "nests", "agree", "joined", "many", f"table {head}",
                                   f"at {draw.randrange(9)}", "at 0"])
                if draw.random() < .2:
                    yield "undo"

    def test_many_rows(self):
        desk, plain = Desk(), Plain()
        seen = set()
        for row in itertools.islice(self.rows(random.Random(90)), 4000):
            due = plain.say(row)
            self.said(desk, (row, due)) if isinstance(due, str) else self.assertRaises(due, desk.say, row)
            seen.add((row.split(" ")[0], due if due in ("ok", "none", "alone") or type(due) is type else "some"))
        self.assertTrue({("put", "ok"), ("put", NoHead), ("put", NoTables), ("take", "ok"), ("take", NoTables),
                         ("table", NoHead), ("many", Bound), ("at", Bound), ("at", NoNumber), ("at", "some"),
                         ("tree", "alone"), ("tree", "none"), ("nests", "none"), ("joined", "none")} <= seen, seen)


class Apart(Desks):
    def test_two_desks_have_nothing_in_common(self):
        one, other = Desk(), Desk()
        self.said(one, ("layout 3 : 0,1 1,2", "ok"), ("put 0 01", "ok"))
        self.said(other, ("show", "1 : 0"), ("table 0", "none"), ("undo", NoRow), ("put 0 7", "ok"))
        self.said(one, ("table 0", "01"), ("undo", "ok"), ("table 0", "none"))
        self.said(other, ("table 0", "7"), ("undo", "ok"), ("undo", NoRow))
        self.said(one, ("show", "3 : 0,1 1,2"), ("undo", "ok"), ("undo", NoRow))
        self.said(Desk(), ("show", "1 : 0"), ("table 0", "none"), ("undo", NoRow))

    def test_the_same_asked_again_has_the_same_answer(self):
        desk = laid_out(LINE, (((0, 1), (2, 1)), ((1, 5), (1, 6))))
        self.assertEqual(answers(desk), answers(desk))
        self.assertEqual([desk.say(ask) for ask in ASKS * 3], [desk.say(ask) for ask in ASKS] * 3)

    def test_each_word_is_known(self):
        desk = laid_out(LINE, (((0, 1),), ((1, 5),)))
        rows = ["layout 1 : 0", "put 0 3", "take 0 3", "undo"] + ASKS[:-1] + ["put 0 4", "at 0"]
        self.assertEqual(sorted({row.split(" ")[0] for row in rows}), sorted(WORDS))
        for row in rows:
            self.assertIs(type(desk.say(row)), str)
