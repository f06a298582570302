"""Layouts and odd things for the tests, and plain readings of the document to hold the program against."""

import itertools
import random

ONE = (1, ((0,),))
LINE = (3, ((0, 1), (1, 2)))
PATH = (4, ((0, 1), (1, 2), (2, 3)))
TRIANGLE = (3, ((0, 1), (1, 2), (0, 2)))
COVERED = (3, ((0, 1), (1, 2), (0, 2), (0, 1, 2)))
RING = (4, ((0, 1), (1, 2), (2, 3), (0, 3)))
TAILED = (5, ((3, 4), (0, 1), (1, 2), (0, 2, 3), (4,)))
STAR = (4, ((0, 1), (0, 2), (0, 3)))
ALIKE = (7, ((0, 1, 2, 3, 4, 5, 6),) * 6)
APART = (7, ((0,), (1,), (2,), (3,), (4,), (5, 6)))
TWINS = (2, ((0, 1), (0, 1)))
WITHIN = (3, ((1,), (0, 1, 2)))
GAPPED = (5, ((0, 2), (2, 4), (4,)))
LAYOUTS = [ONE, LINE, PATH, TRIANGLE, COVERED, RING, TAILED, STAR, ALIKE, APART, TWINS, WITHIN, GAPPED]


def nested(depth, kind):
    """Something that stands so many deep in lists or tuples."""
    thing = 0
    for _ in range(depth):
        thing = kind([thing])
    return thing


BIG = 10 ** 40 - 1
NO_NUMBERS = [None, True, False, "", "0", "a" * 2600, [], [0], (), (0,), ((),), {}, {0: 0}, {"0": [0]},
              nested(7, list), nested(7, tuple), [0] * 24999, tuple(range(24999))]
ODD = NO_NUMBERS + [-1, -BIG, 7, 8, BIG]


def all_layouts(columns, heads):
    """All layouts of just so many columns and heads."""
    choice = [head for size in range(1, columns + 1) for head in itertools.combinations(range(columns), size)]
    return [(columns, picked) for picked in itertools.product(choice, repeat=heads)]


def drawn_layouts(many):
    """So many layouts of up to seven columns and six heads, the same ones each time."""
    draw = random.Random(20)
    found = []
    for _ in range(many):
        columns = draw.randint(3, 7)
        most = draw.randint(1, min(4, columns))
        heads = [tuple(sorted(draw.sample(range(columns), draw.randint(1, most))))
                 for _ in range(draw.randint(3, 6))]
        found.append((columns, tuple(heads)))
    return found


def small_layouts():
    """Layouts enough to meet each case, few enough to be gone through."""
    found = list(LAYOUTS)
    for columns, heads in ((1, 1), (1, 2), (2, 2), (2, 3), (3, 2), (3, 3)):
        found.extend(all_layouts(columns, heads))
    return found + drawn_layouts(200)


def hang(numbers, pairs):
    """Whether the numbers hang together by those of the pairs that are among them."""
    numbers = set(numbers)
    if not numbers:
        return True
    reached = {min(numbers)}
    while True:
        more = {b for a, b in pairs if a in reached and b in numbers}
        more |= {a for a, b in pairs if b in reached and a in numbers}
        if more <= reached:
            return reached == numbers
        reached |= more


def plain_trees(layout):
    """All trees of a layout, in rising order, by 31."""
    many = len(layout[1])
    pairs = list(itertools.combinations(range(many), 2))
    return [tree for tree in itertools.combinations(pairs, many - 1) if hang(range(many), tree)]


def joins(layout, tree):
    """Whether a tree is a join tree, by 31."""
    columns, heads = layout
    return all(hang([k for k, head in enumerate(heads) if c in head], tree) for c in range(columns))


def plain_holders(layout, left, ear):
    """The holders of a head among the heads left, by 6."""
    heads = {k: set(layout[1][k]) for k in left}
    others = [k for k in left if k != ear]
    shared = {c for c in heads[ear] if any(c in heads[k] for k in others)}
    return [k for k in others if shared <= heads[k]]


def plain_left(layout, steps):
    """The heads left by steps of pairs of numbers, None where they are none, by 22."""
    left = list(range(len(layout[1])))
    for ear, holder in steps:
        if ear not in left or holder not in plain_holders(layout, left, ear):
            return None
        left.remove(ear)
    return tuple(left)


def ends(layout):
    """All the sets of heads that steps can lead to where there is no ear any more."""
    reached = {tuple(range(len(layout[1])))}
    found = set()
    while reached:
        left = reached.pop()
        gone = [k for k in left if plain_holders(layout, left, k)]
        if not gone:
            found.add(left)
        reached |= {tuple(h for h in left if h != k) for k in gone}
    return found
