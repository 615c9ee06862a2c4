"""Deeds and their stamps: which moves hold, and which one undo and redo choose.

Each function here is given the deeds that one desk knows, and no others.
"""


class Move:
    """Puts a thing under another, with a label. A stamp is (count, desk)."""

    def __init__(self, number, stamp, thing, under, label):
        self.number = number
        self.stamp = stamp
        self.thing = thing
        self.under = under
        self.label = label


class Turn:
    """Does the move with the number target again (to_hold), or takes it back."""

    def __init__(self, number, stamp, target, to_hold):
        self.number = number
        self.stamp = stamp
        self.target = target
        self.to_hold = to_hold


def by_stamps(deeds):
    return sorted(deeds, key=lambda deed: deed.stamp)


def stamp_for(desk, deeds):
    greatest = max([deed.stamp[0] for deed in deeds], default=0)
    return (greatest + 1, desk)


def is_move_of(desk, deed):
    return isinstance(deed, Move) and deed.stamp[1] == desk


def last_turns(deeds):
    """Of each move that was ever taken back or done again: does it hold?"""
    turned = {}
    for deed in by_stamps(deeds):
        if isinstance(deed, Turn):
            turned[deed.target] = deed.to_hold
    return turned


def holds(number, deeds):
    return last_turns(deeds).get(number, True)


def moves_by_stamps(deeds):
    return [deed for deed in by_stamps(deeds) if isinstance(deed, Move)]


def moves_that_hold(deeds):
    """The moves that hold, the earliest stamp first."""
    turned = last_turns(deeds)
    return [move for move in moves_by_stamps(deeds) if turned.get(move.number, True)]


def move_to_undo(desk, deeds):
    """The number of the move that undo takes back, or None."""
    chosen = None
    for deed in moves_that_hold(deeds):
        if is_move_of(desk, deed):
            chosen = deed.number
    return chosen


def move_to_redo(desk, deeds):
    """The number of the move that redo does again, or None."""
    turned = last_turns(deeds)
    chosen = None
    for deed in by_stamps(deeds):
        if is_move_of(desk, deed):
            # A move of the desk's own shuts off every taking back before it,
            # whether or not that move still holds.
            chosen = None
        elif deed.stamp[1] == desk and not deed.to_hold and not turned[deed.target]:
            chosen = deed.target
    return chosen
