"""Promises 1, 2 and 3 where each desk knows its own deeds alone, on written lists of calls and on many made ones."""

import random
import unittest

from tests.helper import (FIRST_SIX, GREATEST, ask, assert_tree, back, begin, last, move, plain_tree, redo, some_call,
                          some_move, undo)


class TheTreeOfTheOthers(unittest.TestCase):
    """Promise 1."""

    def test_back_of_each_move(self):
        puts = [(5, 0, 1), (6, 5, 2), (7, 6, 3), (5, 1, 4), (7, 0, 5), (6, 7, 6), (7, 5, 7)]
        calls = [move(0, *put) for put in puts]
        for number in range(len(puts)):
            with self.subTest(number=number):
                others = puts[:number] + puts[number + 1:]
                assert_tree(self, calls + [back(0, number)], 0, plain_tree(others))

    def test_back_of_two_moves(self):
        puts = [(5, 0, 1), (6, 5, 2), (5, 6, 3), (7, 6, 4), (6, 1, 5)]
        calls = [move(0, *put) for put in puts]
        for first in range(5):
            for second in range(5):
                if first != second:
                    with self.subTest(first=first, second=second):
                        others = [put for number, put in enumerate(puts) if number not in (first, second)]
                        assert_tree(self, calls + [back(0, first), back(0, second)], 0, plain_tree(others))

    def test_undo_step_by_step(self):
        puts = [(5, 0, 1), (6, 5, 2), (7, 6, 3), (5, 1, 4), (6, 0, 5)]
        for undone in range(1, 6):
            with self.subTest(undone=undone):
                calls = [move(0, *put) for put in puts] + [undo(0)] * undone
                assert_tree(self, calls, 0, plain_tree(puts[:5 - undone]))

    def test_undo_where_back_came_ahead(self):
        puts = [(5, 0, 1), (6, 5, 2), (7, 6, 3), (5, 1, 4)]
        calls = [move(0, *put) for put in puts] + [back(0, 1), undo(0)]
        assert_tree(self, calls, 0, plain_tree([puts[0], puts[2]]))

    def test_made_moves(self):
        for seed in range(12):
            chance = random.Random(seed)
            calls = [some_move(chance, 0, 8) for step in range(20)]
            gone = chance.sample(range(20), 5)
            others = [tuple(call[2:]) for number, call in enumerate(calls) if number not in gone]
            with self.subTest(seed=seed):
                assert_tree(self, calls + [back(0, number) for number in gone], 0, plain_tree(others))


class UndoneAndDoneAgain(unittest.TestCase):
    """Promise 2."""

    def test_one_undo_and_redo(self):
        puts = [(5, 0, 1), (6, 5, 2), (7, 6, 3), (5, 1, 4), (6, 0, 5), (7, 7, 6), (8, 9, 7)]
        for size in range(1, len(puts) + 1):
            with self.subTest(size=size):
                calls = [move(0, *put) for put in puts[:size]] + [undo(0), redo(0)]
                assert_tree(self, calls, 0, plain_tree(puts[:size]))

    def test_several_in_a_row(self):
        puts = [(5, 0, 1), (6, 5, 2), (7, 6, 3), (5, 1, 4)]
        for times in range(1, 5):
            with self.subTest(times=times):
                calls = [move(0, *put) for put in puts] + [undo(0)] * times + [redo(0)] * times
                assert_tree(self, calls, 0, plain_tree(puts))
                self.assertEqual(last(*calls, redo(0)), [-3])

    def test_both_tell_the_same_anywhere(self):
        for seed in range(60):
            chance = random.Random(seed)
            calls = [begin(2)] + [some_call(chance, 2, 20, FIRST_SIX) for step in range(30)]
            rows = ask(*calls, undo(0), redo(0), undo(0), redo(0))
            with self.subTest(seed=seed):
                if rows[-4] != [-3]:
                    self.assertEqual(rows[-3:], [rows[-4]] * 3)


class NobodyElses(unittest.TestCase):
    """Promise 3."""

    def test_two_desks_take_back_their_own(self):
        calls = [begin(2), move(0, 5, 0, 1), move(1, 5, 1, 2), move(0, 6, 5, 3), move(1, 7, 5, 4)]
        self.assertEqual(ask(*calls, undo(0), undo(1), undo(0), undo(1), undo(0), undo(1))[5:],
                         [[2, 6], [3, 7], [0, 5], [1, 5], [-3], [-3]])
        assert_tree(self, calls + [undo(0), undo(0)], 1, {5: (1, 2), 7: (5, 4)})
        assert_tree(self, calls + [undo(1), redo(1), back(1, 1)], 0, {5: (0, 1), 6: (5, 3)})

    def test_a_desks_answers_are_those_it_has_alone(self):
        for seed in range(60):
            chance = random.Random(seed)
            self.check_alone([(chance.randrange(3), chance.choice("mmmurb"), some_move(chance, 0)[2:])
                              for step in range(60)])

    def check_alone(self, plans):
        """Runs the plans of all desks together, then each desk's alone: the desk is to be told the same."""
        for desk in range(3):
            own = [plan for plan in plans if plan[0] == desk]
            together = self.run_plans(plans, desk)
            self.assertEqual(together, self.run_plans(own, desk))

    def run_plans(self, plans, watched):
        """What the watched desk is told, with its moves counted among its own: deed numbers differ."""
        calls = [begin(3)]
        seen = []
        own = []
        for desk, kind, put in plans:
            if kind == "b":
                # Of its own moves the one that its put chooses, whatever number that has here.
                mine = own_moves(own, desk)
                call = back(desk, mine[put[0] % len(mine)] if mine else GREATEST)
            else:
                call = {"m": move(desk, *put), "u": undo(desk), "r": redo(desk)}[kind]
            calls.append(call)
            row = last(*calls)
            if kind == "m" and row[0] >= 0:
                own.append((desk, row[0]))
            if desk == watched:
                mine = own_moves(own, desk)
                seen.append([mine.index(row[0]) if row[0] >= 0 else row[0]] + row[1:])
        return seen


def own_moves(own, desk):
    return [number for owner, number in own if owner == desk]


if __name__ == "__main__":
    unittest.main()
