"""A house: all deeds that were done in it, and which of them each desk knows."""

from handsback.deeds import Move, Turn, is_move_of, moves_that_hold, stamp_for
from handsback.trees import do_move, tree_of

MOST_DEEDS = 120


class House:
    """At its beginning one desk; each desk's knowledge is its own."""

    def __init__(self):
        self.done = []
        self.known = [{}]

    def start(self, desks):
        self.done = []
        self.known = [{} for desk in range(desks)]

    def has_desk(self, desk):
        return desk < len(self.known)

    def is_full(self):
        return len(self.done) >= MOST_DEEDS

    def has_deed(self, number):
        return number < len(self.done)

    def has_own_move(self, desk, number):
        return self.has_deed(number) and is_move_of(desk, self.done[number])

    def known_deeds(self, desk):
        return [self.done[number] for number in self.known[desk]]

    def tree_at(self, desk):
        return tree_of(moves_that_hold(self.known_deeds(desk)))

    def tree_without(self, desk, number):
        """The desk's tree if the move with this number didn't hold there."""
        standing = moves_that_hold(self.known_deeds(desk))
        return tree_of([move for move in standing if move.number != number])

    def outcomes_at(self, desk):
        """What comes of each move that holds at the desk, by the move's number."""
        tree = {}
        outcomes = {}
        for move in moves_that_hold(self.known_deeds(desk)):
            outcomes[move.number] = do_move(tree, move)
        return outcomes

    def knows_alike(self, desk, other):
        return self.known[desk] == self.known[other]

    def learn(self, desk, numbers):
        """From here on the desk knows these deeds; tells how many of them it didn't know."""
        before = len(self.known[desk])
        for number in numbers:
            self.known[desk][number] = True
        return len(self.known[desk]) - before

    def share(self, desk, other):
        """Both know all that either knew; tells how many the desk learned, and how many the other."""
        # A list of its own: a desk may meet itself, and what is walked must not change.
        ahead = list(self.known[desk])
        return [self.learn(desk, list(self.known[other])), self.learn(other, ahead)]

    def add_move(self, desk, thing, under, label):
        stamp = stamp_for(desk, self.known_deeds(desk))
        deed = Move(len(self.done), stamp, thing, under, label)
        self.keep(desk, deed)
        return deed

    def add_turn(self, desk, target, to_hold):
        stamp = stamp_for(desk, self.known_deeds(desk))
        self.keep(desk, Turn(len(self.done), stamp, target, to_hold))

    def keep(self, desk, deed):
        self.done.append(deed)
        self.known[desk][deed.number] = True
