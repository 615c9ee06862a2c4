"""A house: all deeds that were done in it, and which of them each desk knows."""

from handsback.deeds import Move, Turn, is_move_of, moves_that_hold, stamp_for
from handsback.trees import tree_of

MOST_DEEDS = 120


class House:
    """At its beginning one desk; each desk's knowledge is its own."""

    def __init__(self):
        self.done = []
        self.known = [{}]

    def start(self, desks):
        self.done = []
        self.known = [{} for desk in range(desks)]

    def has_desk(self, desk):
        return desk < len(self.known)

    def is_full(self):
        return len(self.done) >= MOST_DEEDS

    def has_own_move(self, desk, number):
        return number < len(self.done) and is_move_of(desk, self.done[number])

    def known_deeds(self, desk):
        return [self.done[number] for number in self.known[desk]]

    def tree_at(self, desk):
        return tree_of(moves_that_hold(self.known_deeds(desk)))

    def add_move(self, desk, thing, under, label):
        stamp = stamp_for(desk, self.known_deeds(desk))
        deed = Move(len(self.done), stamp, thing, under, label)
        self.keep(desk, deed)
        return deed

    def add_turn(self, desk, target, to_hold):
        stamp = stamp_for(desk, self.known_deeds(desk))
        self.keep(desk, Turn(len(self.done), stamp, target, to_hold))

    def keep(self, desk, deed):
        self.done.append(deed)
        self.known[desk][deed.number] = True
