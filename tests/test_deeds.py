"""Stamps, when a move holds, and what undo and redo choose, of deeds from several desks in any order."""

import itertools
import unittest

from handsback.deeds import (Move, Turn, by_stamps, holds, move_to_redo, move_to_undo, moves_by_stamps, moves_that_hold,
                             stamp_for)


def put(number, count, desk):
    return Move(number, (count, desk), 5, 0, 0)


def taken(number, count, desk, target):
    return Turn(number, (count, desk), target, False)


def redone(number, count, desk, target):
    return Turn(number, (count, desk), target, True)


def numbers(deeds):
    return [deed.number for deed in deeds]


class Stamps(unittest.TestCase):
    def test_the_lesser_count_then_the_lesser_desk(self):
        deeds = [put(0, 2, 0), put(1, 1, 1), put(2, 2, 1), put(3, 1, 0), put(4, 10, 0), put(5, 9, 7)]
        for order in itertools.permutations(deeds):
            self.assertEqual(numbers(by_stamps(order)), [3, 1, 0, 2, 5, 4])

    def test_one_above_the_greatest_count_known(self):
        self.assertEqual(stamp_for(3, []), (1, 3))
        self.assertEqual(stamp_for(0, [put(0, 4, 1), put(1, 2, 0)]), (5, 0))
        self.assertEqual(stamp_for(2, [put(1, 2, 0), taken(2, 7, 0, 1)]), (8, 2))


class Holding(unittest.TestCase):
    def test_unless_the_last_one_takes_it_back(self):
        deeds = [put(0, 1, 0), taken(1, 2, 0, 0), redone(2, 3, 0, 0), taken(3, 4, 0, 0)]
        for size, told in ((1, True), (2, False), (3, True), (4, False)):
            for order in itertools.permutations(deeds[:size]):
                self.assertEqual(holds(0, order), told)
                self.assertEqual(numbers(moves_that_hold(order)), [0] if told else [])

    def test_of_the_deeds_that_are_known(self):
        self.assertEqual(numbers(moves_that_hold([taken(1, 2, 0, 0), put(2, 3, 0)])), [2])
        self.assertFalse(holds(0, [put(0, 1, 0), taken(3, 4, 0, 0)]))

    def test_the_earliest_stamp_first(self):
        self.assertEqual(numbers(moves_that_hold([put(0, 3, 0), put(1, 1, 1), put(2, 3, 1), put(3, 2, 2)])), [1, 3, 0, 2])

    def test_all_moves_whether_or_not_they_hold(self):
        deeds = [put(0, 2, 0), taken(1, 3, 0, 0), put(2, 1, 1), redone(3, 5, 1, 2), put(4, 1, 0)]
        for order in itertools.permutations(deeds):
            self.assertEqual(numbers(moves_by_stamps(order)), [4, 2, 0])
            self.assertEqual(numbers(moves_that_hold(order)), [4, 2])


class Choices(unittest.TestCase):
    def test_undo_takes_the_desks_own(self):
        deeds = [put(0, 1, 0), put(1, 5, 1), put(2, 3, 0), taken(3, 4, 0, 2)]
        self.assertEqual(move_to_undo(0, deeds), 0)
        self.assertEqual(move_to_undo(1, deeds), 1)
        self.assertIsNone(move_to_undo(2, deeds))

    def test_redo_looks_at_the_desks_own_deeds_alone(self):
        deeds = [put(0, 1, 0), taken(1, 2, 0, 0), put(2, 3, 1), taken(3, 4, 1, 2)]
        self.assertEqual(move_to_redo(0, deeds), 0)
        self.assertEqual(move_to_redo(1, deeds), 2)
        self.assertIsNone(move_to_redo(2, deeds))


if __name__ == "__main__":
    unittest.main()
