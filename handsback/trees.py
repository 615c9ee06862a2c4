"""Trees: a dict from each thing that was put somewhere to (what it's under, its label).

The root and the bin are always there and stand in no such dict.
"""

ROOT = 0
BIN = 1
LAST_THING = 63

PUT = 1
NOT_THERE = 2
WITHIN_ITSELF = 3


def is_there(tree, thing):
    return thing == ROOT or thing == BIN or thing in tree


def is_above(tree, upper, thing):
    """Whether upper is the thing itself or one that the thing is within."""
    step = thing
    while step != upper and step in tree:
        step = tree[step][0]
    return step == upper


def do_move(tree, move):
    """Does the move in this tree and tells what comes of it."""
    if not is_there(tree, move.under):
        return NOT_THERE
    if is_above(tree, move.thing, move.under):
        return WITHIN_ITSELF
    tree[move.thing] = (move.under, move.label)
    return PUT


def tree_of(moves):
    """The tree that comes of these moves, done one after another."""
    tree = {}
    for move in moves:
        do_move(tree, move)
    return tree


def elsewhere(before, after):
    """The things that are elsewhere in one tree than in the other, by their numbers."""
    return [thing for thing in range(LAST_THING + 1) if before.get(thing) != after.get(thing)]


def right_under(tree, upper):
    """The things right under this one, the greatest number first."""
    return [thing for thing in sorted(tree, reverse=True) if tree[thing][0] == upper]


def rows_within_root(tree):
    """(number, depth, label) of each thing within the root, each followed by all within it."""
    rows = []
    depths = {ROOT: 0}
    # What waits is taken from the end, so the least number has to lie there.
    waiting = right_under(tree, ROOT)
    while len(waiting) > 0:
        thing = waiting.pop()
        depths[thing] = depths[tree[thing][0]] + 1
        rows.append((thing, depths[thing], tree[thing][1]))
        waiting.extend(right_under(tree, thing))
    return rows
