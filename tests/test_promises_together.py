"""Promises 1 to 5 where desks know of one another's deeds, over many made lists of calls.

All is seen through the calls alone: desks that nothing else is done at are told what a promise speaks of.
"""

import random
import unittest

from tests.helper import (PlainTree, THAT_SHARE, again, ask, back, begin, deeds, last, meet, move, redo, same, some_call,
                          some_move, tell, tree, undo, would)

WORKING = 3
SPARE = (3, 4, 5)
SEEDS = 150


def made(seed, steps=70):
    """A made list in which the working desks do, tell and meet, and the spare ones know nothing; with its chance."""
    chance = random.Random(seed)
    return chance, [begin(6)] + [some_call(chance, WORKING, 35, THAT_SHARE) for step in range(steps)]


def moves_done(calls):
    """Of each move by its number: the desk, and (thing, under, label)."""
    return {row[0]: (call[1], tuple(call[2:])) for call, row in zip(calls, ask(*calls)) if call[0] == 2 and row[0] >= 0}


def deeds_done(calls):
    return sum(1 for call, row in zip(calls, ask(*calls)) if 2 <= call[0] <= 6 and row[0] >= 0)


def known_moves(calls, desk):
    """The moves that the desk knows behind the calls, the earliest stamp first, with what comes of each."""
    told = last(*calls, deeds(desk))
    return dict(zip(told[1::2], told[2::2]))


class TheTreeOfTheOthers(unittest.TestCase):
    """Promise 1."""

    def check(self, calls, chance, desk, gone, taking):
        done = moves_done(calls)
        others = [number for number, outcome in known_moves(calls, desk).items() if outcome != 0 and number != gone]
        expected = PlainTree(done[number][1] for number in others).told()
        # A desk that knows just the other moves that hold, and no taking back.
        shuffled = chance.sample(others, len(others))
        rows = ask(*calls, taking, *[tell(number, SPARE[0]) for number in shuffled], tree(desk), same(desk, SPARE[0]))
        self.assertEqual(rows[len(calls)][0], gone)
        self.assertEqual(rows[-2], expected)
        self.assertEqual(rows[-1], [0, 1])

    def test_behind_back_and_undo(self):
        checked = 0
        for seed in range(SEEDS):
            chance, calls = made(seed)
            done = moves_done(calls)
            for desk in range(WORKING):
                own = [number for number, outcome in known_moves(calls, desk).items()
                       if outcome != 0 and done[number][0] == desk]
                if own:
                    gone = chance.choice(own)
                    with self.subTest(seed=seed, desk=desk):
                        self.check(calls, chance, desk, gone, back(desk, gone))
                        self.check(calls, chance, desk, own[-1], undo(desk))
                        checked += 1
        self.assertGreater(checked, SEEDS)


class UndoneAndDoneAgain(unittest.TestCase):
    """Promise 2."""

    def test_the_tree_is_as_it_was(self):
        checked = 0
        for seed in range(SEEDS):
            chance, calls = made(seed)
            for desk in range(WORKING):
                times = chance.randint(1, 3)
                rows = ask(*calls, meet(desk, SPARE[0]), tree(desk), *[undo(desk)] * times, *[redo(desk)] * times,
                           tree(desk), same(desk, SPARE[0]))[len(calls) + 1:]
                undone, redone = rows[1:1 + times], rows[1 + times:1 + 2 * times]
                if [-3] not in undone:
                    with self.subTest(seed=seed, desk=desk):
                        self.assertEqual(redone, undone[::-1])
                        self.assertEqual(rows[-2], rows[0])
                        self.assertEqual(rows[-1], [0, 1])
                        checked += 1
        self.assertGreater(checked, SEEDS)


class NobodyElses(unittest.TestCase):
    """Promise 3."""

    def held(self, calls, actor):
        """At each desk, whether each known move of all others than the actor holds."""
        done = moves_done(calls)
        return [{number: outcome != 0 for number, outcome in known_moves(calls, desk).items() if done[number][0] != actor}
                for desk in range(WORKING)]

    def test_whether_others_moves_hold(self):
        for seed in range(SEEDS):
            chance, calls = made(seed, 50)
            actor = chance.randrange(WORKING)
            number = deeds_done(calls)
            before = self.held(calls, actor)
            for deed in (some_move(chance, actor), undo(actor), redo(actor),
                         back(actor, chance.randrange(number + 1)), again(actor, chance.randrange(number + 1))):
                with self.subTest(seed=seed, deed=deed):
                    self.assertEqual(self.held(calls + [deed], actor), before)
                    told = [tell(number, desk) for desk in range(WORKING)]
                    self.assertEqual(self.held(calls + [deed] + told, actor), before)

    def test_anothers_move_is_neither_taken_back_nor_done_again(self):
        for seed in range(SEEDS):
            chance, calls = made(seed, 50)
            for number, (owner, put) in moves_done(calls).items():
                desk = (owner + chance.randint(1, WORKING - 1)) % WORKING
                with self.subTest(seed=seed, number=number):
                    self.assertEqual(ask(*calls, tell(number, desk), back(desk, number), again(desk, number),
                                         would(desk, number))[-3:], [[-3]] * 3)


class TheSameDeedsTheSameTree(unittest.TestCase):
    """Promise 4."""

    def test_learned_in_two_orders_and_by_meeting(self):
        for seed in range(SEEDS):
            chance, calls = made(seed, 50)
            size = deeds_done(calls)
            some = chance.sample(range(size), chance.randint(0, size))
            cut = chance.randint(0, len(some))
            first, second, third = SPARE
            one_way = [tell(number, first) for number in some]
            # The other way: a part each, with some deeds at both, then a meeting.
            other_way = [tell(number, second) for number in sorted(some[:cut])]
            other_way += [tell(number, third) for number in sorted(some[cut // 2:], reverse=True)]
            rows = ask(*calls, *one_way, *other_way, meet(second, third), same(first, second), same(third, first),
                       tree(first), tree(second), tree(third), deeds(first), deeds(second), deeds(third))
            with self.subTest(seed=seed):
                self.assertEqual(rows[-9][0], len(some))
                self.assertEqual(rows[-8:-6], [[1, 1], [1, 1]])
                self.assertEqual(rows[-6:-3], [rows[-6]] * 3)
                self.assertEqual(rows[-3:], [rows[-3]] * 3)

    def test_all_desks_meet_in_the_end(self):
        for seed in range(SEEDS):
            chance, calls = made(seed)
            pairs = [(0, 1), (1, 2), (2, 0), (0, 1)]
            rows = ask(*calls, *[meet(*pair) for pair in pairs], same(0, 1), same(1, 2), same(2, 0),
                       tree(0), tree(1), tree(2), deeds(0), deeds(1), deeds(2))
            with self.subTest(seed=seed):
                self.assertEqual(rows[-9:-6], [[1, 1]] * 3)
                self.assertEqual(rows[-6:-3], [rows[-6]] * 3)
                self.assertEqual(rows[-3:], [rows[-3]] * 3)

    def test_same_deeds_never_with_another_tree(self):
        for seed in range(SEEDS):
            chance, calls = made(seed)
            asked = [same(desk, other) for desk in range(6) for other in range(6)]
            self.assertNotIn([1, 0], ask(*calls, *asked)[len(calls):])


class JustWhatBackWill(unittest.TestCase):
    """Promise 5."""

    def test_each_number_at_each_desk(self):
        granted = 0
        for seed in range(SEEDS // 3):
            chance, calls = made(seed, 60)
            for desk in range(WORKING + 1):
                for number in range(deeds_done(calls) + 1):
                    foreseen, taken = ask(*calls, would(desk, number), back(desk, number))[-2:]
                    with self.subTest(seed=seed, desk=desk, number=number):
                        if taken[0] < 0:
                            self.assertEqual(foreseen, taken)
                        else:
                            self.assertEqual(taken, [number] + foreseen[1:])
                            self.assertEqual(foreseen[0], len(foreseen) - 1)
                            granted += 1
        self.assertGreater(granted, SEEDS)

    def test_asking_changes_no_later_answer(self):
        for seed in range(SEEDS):
            chance, calls = made(seed)
            place = chance.randint(1, len(calls))
            asked = [would(chance.randrange(WORKING), chance.randrange(30)) for step in range(10)]
            rows = ask(*calls[:place], *asked, *calls[place:])
            with self.subTest(seed=seed):
                self.assertEqual(rows[:place] + rows[place + 10:], ask(*calls))


class WrittenOut(unittest.TestCase):
    """The promises once more on one list that can be followed by hand."""

    AHEAD = [begin(4), move(0, 5, 0, 1), move(1, 6, 0, 2), meet(0, 1), move(0, 6, 5, 3), move(1, 5, 6, 4), meet(1, 0),
             move(2, 7, 5, 5), tell(2, 2), meet(0, 2)]

    def test_what_holds_there(self):
        # By stamps: 0 (1, 0), 1 (1, 1), 4 (1, 2), 2 (2, 0), 3 (2, 1).
        self.assertEqual(ask(*self.AHEAD, deeds(0), tree(0))[-2:],
                         [[5, 0, 1, 1, 1, 4, 1, 2, 1, 3, 3], [3, 5, 1, 1, 6, 2, 3, 7, 2, 5]])

    def test_would_back_and_again(self):
        # Without move 2 the thing 5 goes under 6 by move 3.
        rows = ask(*self.AHEAD, would(0, 2), back(0, 2), tree(0), deeds(0), again(0, 2), tree(0))
        self.assertEqual(rows[10:], [[2, 5, 6], [2, 5, 6], [3, 6, 1, 2, 5, 2, 4, 7, 3, 5],
                                     [5, 0, 1, 1, 1, 4, 1, 2, 0, 3, 1], [2, 5, 6], [3, 5, 1, 1, 6, 2, 3, 7, 2, 5]])

    def test_each_takes_back_its_own(self):
        rows = ask(*self.AHEAD, meet(0, 1), meet(0, 2), undo(0), undo(1), undo(2), meet(0, 1), meet(0, 2), deeds(0),
                   tree(0), redo(0), redo(1), redo(2), meet(0, 1), meet(0, 2), deeds(0), tree(0))
        self.assertEqual(rows[12:15], [[2, 5, 6], [3], [4, 7]])
        self.assertEqual(rows[17:22], [[5, 0, 1, 1, 1, 4, 0, 2, 0, 3, 0], [2, 5, 1, 1, 6, 1, 2], [2, 6], [3, 5], [4, 7]])
        self.assertEqual(rows[24:], [[5, 0, 1, 1, 1, 4, 1, 2, 1, 3, 3], [3, 5, 1, 1, 6, 2, 3, 7, 2, 5]])


if __name__ == "__main__":
    unittest.main()
