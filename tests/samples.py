"""Layouts and odd things for the tests, and plain readings of the document to hold the program against."""

import functools
import itertools
import random

ONE = (1, ((0,),))
LINE = (3, ((0, 1), (1, 2)))
PATH = (4, ((0, 1), (1, 2), (2, 3)))
TRIANGLE = (3, ((0, 1), (1, 2), (0, 2)))
COVERED = (3, ((0, 1), (1, 2), (0, 2), (0, 1, 2)))
RING = (4, ((0, 1), (1, 2), (2, 3), (0, 3)))
TAILED = (5, ((3, 4), (0, 1), (1, 2), (0, 2, 3), (4,)))
STAR = (4, ((0, 1), (0, 2), (0, 3)))
ALIKE = (7, ((0, 1, 2, 3, 4, 5, 6),) * 6)
APART = (7, ((0,), (1,), (2,), (3,), (4,), (5, 6)))
TWINS = (2, ((0, 1), (0, 1)))
WITHIN = (3, ((1,), (0, 1, 2)))
GAPPED = (5, ((0, 2), (2, 4), (4,)))
RING_5 = (5, ((0, 1), (1, 2), (2, 3), (3, 4), (0, 4)))
RING_6 = (6, ((0, 1), (1, 2), (2, 3), (3, 4), (4, 5), (0, 5)))
LOT_4 = (4, ((0, 1, 2), (0, 1, 3), (0, 2, 3), (1, 2, 3)))
LOT_7 = (7, ((0, 1, 2, 3, 4, 5), (0, 1, 2, 3, 4, 6), (5, 6)))
LAYOUTS = [ONE, LINE, PATH, TRIANGLE, COVERED, RING, TAILED, STAR, ALIKE, APART, TWINS, WITHIN, GAPPED, RING_5, RING_6,
           LOT_4, LOT_7]


def nested(depth, kind):
    """Something that stands so many deep in lists or tuples."""
    thing = 0
    for _ in range(depth):
        thing = kind([thing])
    return thing


BIG = 10 ** 40 - 1
NO_NUMBERS = [None, True, False, "", "0", "a" * 2600, [], [0], (), (0,), ((),), {}, {0: 0}, {"0": [0]},
              nested(7, list), nested(7, tuple), [0] * 24999, tuple(range(24999))]
ODD = NO_NUMBERS + [-1, -BIG, 7, 8, BIG]


def all_layouts(columns, heads):
    """All layouts of just so many columns and heads."""
    choice = [head for size in range(1, columns + 1) for head in itertools.combinations(range(columns), size)]
    return [(columns, picked) for picked in itertools.product(choice, repeat=heads)]


def drawn_layouts(many):
    """So many layouts of up to seven columns and six heads, the same ones each time."""
    draw = random.Random(20)
    found = []
    for _ in range(many):
        columns = draw.randint(3, 7)
        most = draw.randint(1, min(4, columns))
        heads = [tuple(sorted(draw.sample(range(columns), draw.randint(1, most))))
                 for _ in range(draw.randint(3, 6))]
        found.append((columns, tuple(heads)))
    return found


def wide_layouts(many):
    """So many layouts of seven columns and six heads, of few columns and of many, the same ones each time."""
    draw = random.Random(30)
    found = []
    while len(found) < many:
        share = (15, 25, 40, 60, 75, 90)[len(found) % 6]
        heads = [tuple([c for c in range(7) if draw.randint(1, 100) <= share]) for _ in range(6)]
        if all(heads):
            found.append((7, tuple(heads)))
    return found


def small_layouts():
    """Layouts enough to meet each case, few enough to be gone through."""
    found = list(LAYOUTS)
    for columns, heads in ((1, 1), (1, 2), (2, 2), (2, 3), (3, 2), (3, 3)):
        found.extend(all_layouts(columns, heads))
    return found + drawn_layouts(200)


def hang(numbers, pairs):
    """Whether the numbers hang together by those of the pairs that are among them."""
    numbers = set(numbers)
    if not numbers:
        return True
    reached = {min(numbers)}
    while True:
        more = {b for a, b in pairs if a in reached and b in numbers}
        more |= {a for a, b in pairs if b in reached and a in numbers}
        if more <= reached:
            return reached == numbers
        reached |= more


def plain_trees(layout):
    """All trees of a layout, in rising order, by 31."""
    many = len(layout[1])
    pairs = list(itertools.combinations(range(many), 2))
    return [tree for tree in itertools.combinations(pairs, many - 1) if hang(range(many), tree)]


def joins(layout, tree):
    """Whether a tree is a join tree, by 31."""
    columns, heads = layout
    return all(hang([k for k, head in enumerate(heads) if c in head], tree) for c in range(columns))


def plain_holders(layout, left, ear):
    """The holders of a head among the heads left, by 6."""
    heads = {k: set(layout[1][k]) for k in left}
    others = [k for k in left if k != ear]
    shared = {c for c in heads[ear] if any(c in heads[k] for k in others)}
    return [k for k in others if shared <= heads[k]]


def plain_left(layout, steps):
    """The heads left by steps of pairs of numbers, None where they are none, by 22."""
    left = list(range(len(layout[1])))
    for ear, holder in steps:
        if ear not in left or holder not in plain_holders(layout, left, ear):
            return None
        left.remove(ear)
    return tuple(left)


def ends(layout):
    """All the sets of heads that steps can lead to where there is no ear any more."""
    reached = {tuple(range(len(layout[1])))}
    found = set()
    while reached:
        left = reached.pop()
        gone = [k for k in left if plain_holders(layout, left, k)]
        if not gone:
            found.add(left)
        reached |= {tuple(h for h in left if h != k) for k in gone}
    return found


def spoiled(thing):
    """Things of other kinds: in each, one part of the thing, or all of it, is of another kind or beyond all bounds."""
    found = [None, True, False, (thing,), [thing], {"a": thing}, {}, [], "", -1, BIG, -BIG]
    if isinstance(thing, int):
        found += [str(thing), -1 - thing]
    if isinstance(thing, tuple):
        found += [list(thing), dict(enumerate(thing)), thing + (None,), thing + (True,), thing + ("0",), thing + ([],)]
        for place, part in enumerate(thing):
            found += [thing[:place] + (other,) + thing[place + 1:] for other in spoiled(part)]
    return found


def first_of(things):
    """The first one of what is gone through, None where there is none."""
    return next(iter(things), None)


def mates(layout, column):
    """The mates of a column, by 2."""
    return {c for head in layout[1] if column in head for c in head if c != column}


def in_heads(layout):
    """The columns that a head has, in order."""
    return [c for c in range(layout[0]) if any(c in head for head in layout[1])]


def plain_bars(layout):
    """All bars of a layout, by 41."""
    beside = {c: mates(layout, c) for c in range(layout[0])}
    found = []
    for size in range(3, layout[0] + 1):
        for lot in itertools.combinations(range(layout[0]), size):
            if all(b in beside[a] for a, b in itertools.combinations(lot, 2)):
                if not any(set(lot) <= set(head) for head in layout[1]):
                    found.append(("lot", lot))
        for ring in itertools.permutations(range(layout[0]), size) if size > 3 else ():
            if ring[0] == min(ring) and ring[1] < ring[-1]:
                near = {c: {ring[k - 1], ring[(k + 1) % size]} for k, c in enumerate(ring)}
                if all(beside[c] & set(ring) == near[c] for c in ring):
                    found.append(("ring", ring))
    return found


def is_row_of_nests(layout, row):
    """Whether an order of the columns that a head has is a row of nests, by 51."""
    for place, column in enumerate(row):
        left = [set(head) - set(row[:place]) for head in layout[1]]
        for one, other in itertools.combinations([head for head in left if column in head], 2):
            if not (one <= other or other <= one):
                return False
    return True


def rows_of_nests(layout):
    """All rows of nests, one behind the other as tuples compare."""
    return (row for row in itertools.permutations(in_heads(layout)) if is_row_of_nests(layout, row))


def comes_round(layout, heads, columns):
    """Whether unlike heads and unlike columns, as many, come round, by 52 and 53."""
    sets = [set(layout[1][k]) for k in heads]
    unlike = len(set(heads)) == len(heads) == len(columns) == len(set(columns))
    return unlike and all(c in sets[k] and c in sets[(k + 1) % len(sets)] for k, c in enumerate(columns))


def plain_is_loop(layout, heads, columns):
    """Whether rows of heads and columns are a loop, by 53."""
    return len(heads) >= 2 and comes_round(layout, heads, columns)


def plain_is_wreath(layout, heads, columns):
    """Whether rows of heads and columns are a wreath, by 52."""
    if len(heads) < 3 or not comes_round(layout, heads, columns):
        return False
    return all(sum(c in layout[1][k] for k in heads) == 2 for c in columns)


def ways_round(layout, least):
    """Rows of unlike heads, so many at least, each with rows of columns that each two that follow share."""
    for size in range(least, len(layout[1]) + 1):
        for heads in itertools.permutations(range(len(layout[1])), size):
            if heads[0] == min(heads):
                sets = [set(layout[1][k]) for k in heads]
                shared = [sorted(sets[k] & sets[(k + 1) % size]) for k in range(size)]
                for columns in itertools.product(*shared):
                    yield heads, columns


def runs(layout, order):
    """Whether an order of all heads is a running order, by 61."""
    sets = [set(layout[1][k]) for k in order]
    for place in range(1, len(order)):
        shared = sets[place] & set().union(*sets[:place])
        if not any(shared <= head for head in sets[:place]):
            return False
    return True


def running_orders(layout):
    """All running orders, one behind the other as tuples compare."""
    return (order for order in itertools.permutations(range(len(layout[1]))) if runs(layout, order))


def orders_columns(layout, order):
    """Whether an order of all columns is a column order, by 62."""
    heads = [set(head) for head in layout[1]]
    for place, column in enumerate(order):
        wanted = {column} | mates(layout, column) & set(order[place:])
        if any(column in head for head in heads) and not any(wanted <= head for head in heads):
            return False
    return True


def column_orders(layout):
    """All column orders, one behind the other as tuples compare."""
    return (order for order in itertools.permutations(range(layout[0])) if orders_columns(layout, order))


def all_rows(head, figures, most=625):
    """A table of a head: the first rows of so many figures, at most so many."""
    return tuple(itertools.islice(itertools.product(range(figures), repeat=len(head)), most))


def full_tables(layout, figures, most=625):
    """Tables with all rows of so many figures, at most so many in each."""
    return tuple(all_rows(head, figures, most) for head in layout[1])


def drawn_tables(layout, many, seed=40):
    """So many tables of a layout, the same ones each time: some with joined rows, some without, some with no row."""
    draw = random.Random(f"{seed} {layout}")
    found = []
    for turn in range(many):
        figures = draw.choice((2, 2, 3, 10))
        noise = (0, 1, 4, 9) if len(layout[1]) < 4 else (0, 1, 3)
        whole = [[draw.randrange(figures) for _ in range(layout[0])] for _ in range(draw.choice((0, 1, 2, 5)))]
        tables = []
        for head in layout[1]:
            rows = {tuple(row[c] for c in head) for row in whole}
            rows |= {tuple(draw.randrange(figures) for _ in head) for _ in range(draw.choice(noise))}
            tables.append(() if draw.randrange(30) == 0 else tuple(sorted(rows)))
        found.append(tuple(tables))
    return found


def tables_near(layouts, many):
    """Each of the layouts with each of so many drawn tables of it."""
    return [(layout, tables) for layout in layouts for tables in drawn_tables(layout, many)]


def part(layout, row, columns):
    """What a joined row has of some columns."""
    return tuple(row[in_heads(layout).index(c)] for c in columns)


def plain_joined(layout, tables):
    """All joined rows, by 73: whatever rows of numbers there are, of which each head's are in its table."""
    columns = in_heads(layout)
    numbers = [sorted({row[head.index(c)] for head, table in zip(layout[1], tables) if c in head for row in table})
               for c in columns]
    rows = [()]
    for place, column in enumerate(columns):
        rows = [row + (number,) for row in rows for number in numbers[place]]
        for head, table in zip(layout[1], tables):
            # What no row of a table begins with goes at once: else there were too many to go through.
            if column in head:
                size = head.index(column) + 1
                places = [columns.index(c) for c in head[:size]]
                there = {row[:size] for row in table}
                rows = [row for row in rows if tuple(row[k] for k in places) in there]
    return rows


def plain_agree(layout, tables):
    """Whether tables agree, by 72."""
    for (one, mine), (other, theirs) in itertools.combinations(list(zip(layout[1], tables)), 2):
        shared = [c for c in one if c in other]
        if {tuple(row[one.index(c)] for c in shared) for row in mine} != {
                tuple(row[other.index(c)] for c in shared) for row in theirs}:
            return False
    return True


def plain_parts(layout, tables):
    """For each table the rows that are in some joined row, by 81."""
    rows = plain_joined(layout, tables)
    return tuple(tuple(sorted({part(layout, row, head) for row in rows})) for head in layout[1])


def plain_cut(layout, tables, deeds):
    """The tables when the deeds are done, by 81."""
    tables = list(tables)
    for one, other in deeds:
        mine, theirs = layout[1][one], layout[1][other]
        shared = [c for c in mine if c in theirs]
        tables[one] = tuple(row for row in tables[one] if any(
            all(row[mine.index(c)] == there[theirs.index(c)] for c in shared) for there in tables[other]))
    return tuple(tables)


@functools.lru_cache(maxsize=None)
def has_join_tree(layout):
    """Whether a layout has a join tree, by 31."""
    return any(joins(layout, tree) for tree in plain_trees(layout))


def spoiled_tables(layout, tables):
    """Things that are no tables of the layout: one table, row or number of it spoiled, at each place."""
    found = [list(tables), tables + ((),), tables[:-1], tables + (tables[-1],), tables[0], (tables,), ()]
    for place, (head, table) in enumerate(zip(layout[1], tables)):
        width = len(head)
        good, more = (0,) * width, (1,) * width
        wrong = [[good], [], None, 0, "0" * width, {good: good}, (good, good), (more, good), (good, more, good),
                 (good, more, more), good, (list(good),), (good[:-1],), (good + (0,),), (good, more + (1,)),
                 (good, more[:-1]), (good[:-1] + (10,),), (good[:-1] + (-1,),), (good[:-1] + (True,),),
                 (good[:-1] + (False,),), ((False,) + good[1:],), (good[:-1] + ("0",),), (good[:-1] + (None,),),
                 (good[:-1] + ((0,),),), (good[:-1] + (BIG,),), (good, None), (good, "1" * width), (good, list(more)),
                 ((),), (good, ()), ("",), (None,), (0,)]
        found += [tables[:place] + (thing,) + tables[place + 1:] for thing in wrong]
    return found


def drawn_prices(tables, seed=60):
    """Prices of tables, the same ones each time: at times few, so that many are alike, at times up to the greatest."""
    draw = random.Random(f"{seed} {tables}")
    most = draw.choice((1, 2, 9, 10 ** 12))
    return tuple(tuple(draw.randint(0, most) for _ in table) for table in tables)


def plain_price(layout, tables, prices, row):
    """The price of a joined row, by 101."""
    return sum(costs[table.index(part(layout, row, head))] for head, table, costs in zip(layout[1], tables, prices))


def plain_cheapest(layout, tables, prices):
    """The cheapest joined row, by 101."""
    rows = plain_joined(layout, tables)
    return min(((plain_price(layout, tables, prices, row), row) for row in rows), default=None)


def drawn_paper(layout, seed, figures=3):
    """A price paper of a layout, the same one each time: some tree of it, and moves either way."""
    draw = random.Random(f"{seed} {layout}")
    tree = draw.choice(plain_trees(layout))
    moves = []
    for one, other in tree:
        size = len(set(layout[1][one]) & set(layout[1][other]))
        numbers = {tuple(draw.randrange(figures) for _ in range(size)) for _ in range(draw.choice((0, 1, 3, 9)))}
        moves.append(tuple((some, draw.randint(-20, 20)) for some in sorted(numbers)))
    return (tree, tuple(moves))


def plain_shows(layout, tables, prices, paper):
    """What a price paper shows of tables that have rows, by 102."""
    total = 0
    for number, (head, table, costs) in enumerate(zip(layout[1], tables, prices)):
        found = []
        for row, cost in zip(table, costs):
            for (one, other), moves in zip(*paper):
                shared = [c for c in layout[1][one] if c in layout[1][other]]
                for numbers, more in moves:
                    if number in (one, other) and tuple(row[head.index(c)] for c in shared) == numbers:
                        cost += more if number == one else -more
            found.append(cost)
        total += min(found)
    return total


def is_plain_paper(layout, thing):
    """Whether a thing is a price paper, by 102."""
    if type(thing) is not tuple or len(thing) != 2 or repr(thing[0]) not in map(repr, plain_trees(layout)):
        return False
    if type(thing[1]) is not tuple or len(thing[1]) != len(thing[0]):
        return False
    for (one, other), moves in zip(*thing):
        choice = itertools.product(range(10), repeat=len(set(layout[1][one]) & set(layout[1][other])))
        written = {repr(numbers) for numbers in choice}
        if type(moves) is not tuple or not all(type(move) is tuple and len(move) == 2 for move in moves):
            return False
        if not all(repr(numbers) in written and type(more) is int for numbers, more in moves):
            return False
        if list(moves) != sorted(moves) or len({numbers for numbers, more in moves}) != len(moves):
            return False
    return True
