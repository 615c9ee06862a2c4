"""would: what it answers and refuses, and that it changes nothing."""

import unittest

from tests.helper import GREATEST, MOST_LABEL, again, ask, back, begin, deeds, last, meet, move, redo, same, tell, tree
from tests.helper import undo, would

# Desk 0 puts 5, desk 1 puts 6 and, when it knows of 5, puts 6 under it; desk 0 then puts 7 under 6.
SHARED = [begin(2), move(0, 5, 0, 1), move(1, 6, 0, 2), meet(0, 1), move(1, 6, 5, 3), meet(0, 1), move(0, 7, 6, 4)]


class WhatItTells(unittest.TestCase):
    def test_how_many_things_and_which(self):
        calls = [move(0, 9, 0, 1), move(0, 5, 9, 2), move(0, 7, 5, 3)]
        self.assertEqual(ask(*calls, would(0, 0), would(0, 1), would(0, 2))[3:], [[3, 5, 7, 9], [2, 5, 7], [1, 7]])

    def test_over_several_desks(self):
        # Without 5 the thing 6 stays right under the root; 7 is under 6 all the same.
        self.assertEqual(last(*SHARED, would(0, 0)), [2, 5, 6])
        self.assertEqual(last(*SHARED, would(0, 3)), [1, 7])
        # Desk 1 doesn't know of 7.
        self.assertEqual(last(*SHARED, would(1, 1)), [0])
        self.assertEqual(last(*SHARED, would(1, 2)), [1, 6])

    def test_no_thing(self):
        self.assertEqual(last(move(0, 5, 6), would(0, 0)), [0])
        self.assertEqual(last(move(0, 5, 0, 1), move(0, 5, 1, 2), would(0, 0)), [0])

    def test_gone_moved_and_labelled_otherwise(self):
        self.assertEqual(last(move(0, 5, 0), would(0, 0)), [1, 5])
        self.assertEqual(last(move(0, 5, 0, 3), move(0, 5, 1, 3), would(0, 1)), [1, 5])
        self.assertEqual(last(move(0, 5, 0, 0), move(0, 5, 0, MOST_LABEL), would(0, 1)), [1, 5])

    def test_things_under_the_bin_too(self):
        self.assertEqual(last(move(0, 5, 1), move(0, 63, 5), move(0, 2, 63), would(0, 0)), [3, 2, 5, 63])

    def test_without_it_another_move_can_be_done(self):
        calls = [move(0, 5, 0, 1), move(0, 6, 0, 2), move(0, 5, 6, 3), move(0, 6, 5, 4)]
        self.assertEqual(ask(*calls, would(0, 2))[3:], [[3, 3], [2, 5, 6]])

    def test_a_move_done_again(self):
        self.assertEqual(last(move(0, 5, 0), undo(0), redo(0), would(0, 0)), [1, 5])


class Refusals(unittest.TestCase):
    def test_desks(self):
        for desks in (1, 3, 8):
            ahead = [begin(desks), move(desks - 1, 5, 0)]
            with self.subTest(desks=desks):
                self.assertEqual(last(*ahead, would(desks - 1, 0)), [1, 5])
                self.assertEqual(last(*ahead, would(desks, 0)), [-2])
                self.assertEqual(last(*ahead, would(GREATEST, 0)), [-2])

    def test_no_move_of_the_desks_own(self):
        # 0 is desk 0's move, 1 desk 1's, 2 a taking back, 3 a doing again, 4 is no deed.
        ahead = [begin(2), move(0, 5, 0), move(1, 6, 0), back(0, 0), again(0, 0)]
        for sharing in ([], [meet(0, 1)], [tell(1, 0)]):
            for number in (1, 2, 3, 4, GREATEST):
                with self.subTest(number=number, sharing=sharing):
                    self.assertEqual(last(*ahead, *sharing, would(0, number)), [-3])
            self.assertEqual(last(*ahead, *sharing, would(1, 0)), [-3])
            self.assertEqual(last(*ahead, *sharing, would(0, 0)), [1, 5])
            self.assertEqual(last(*ahead, *sharing, would(1, 1)), [1, 6])
        self.assertEqual(last(would(0, 0)), [-3])

    def test_what_does_not_hold(self):
        self.assertEqual(last(move(0, 5, 0), back(0, 0), would(0, 0)), [-4])
        self.assertEqual(last(move(0, 5, 0), undo(0), would(0, 0)), [-4])
        self.assertEqual(last(begin(2), move(0, 5, 0), meet(0, 1), undo(0), would(0, 0)), [-4])

    def test_the_one_told_first(self):
        ahead = [begin(2), move(0, 5, 0), undo(0), meet(0, 1)]
        self.assertEqual(last(*ahead, would(2, 0)), [-2])
        self.assertEqual(last(*ahead, would(2, GREATEST)), [-2])
        self.assertEqual(last(*ahead, would(1, 0)), [-3])
        self.assertEqual(last(*ahead, would(0, 0)), [-4])


class NothingIsDone(unittest.TestCase):
    def test_all_is_as_it_was(self):
        shown = [tree(0), deeds(0), tree(1), deeds(1), same(0, 1), undo(0), redo(0), move(0, 8, 0)]
        plain = ask(*SHARED, *shown)
        told = ask(*SHARED, would(0, 0), would(0, 3), would(1, 1), would(1, 0), *shown)
        self.assertEqual(told[:7] + told[11:], plain)

    def test_it_may_be_asked_any_number_of_times(self):
        self.assertEqual(ask(*SHARED, *[would(0, 0)] * 150)[7:], [[2, 5, 6]] * 150)

    def test_granted_where_back_is_refused_for_120_deeds(self):
        calls = [move(0, 5, 0)] * 119 + [move(0, 6, 5)]
        self.assertEqual(ask(*calls, back(0, 119), would(0, 119), would(0, 0), back(0, 119))[120:],
                         [[-5], [1, 6], [0], [-5]])


if __name__ == "__main__":
    unittest.main()
