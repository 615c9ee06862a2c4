"""tree, deeds and same: what they tell and refuse."""

import unittest

from tests.helper import GREATEST, MOST_LABEL, again, ask, back, begin, deeds, flat, last, meet, move, same, tell, tree, undo


class NoSuchDesk(unittest.TestCase):
    def test_desks(self):
        for desks in (1, 3, 8):
            ahead = [begin(desks), move(desks - 1, 5, 0, 4)]
            for call, told in ((tree, [1, 5, 1, 4]), (deeds, [1, 0, 1])):
                with self.subTest(call=call.__name__, desks=desks):
                    self.assertEqual(last(*ahead, call(desks - 1)), told)
                    self.assertEqual(last(*ahead, call(desks)), [-2])
                    self.assertEqual(last(*ahead, call(GREATEST)), [-2])

    def test_both_desks_of_same(self):
        for desks in (1, 3, 8):
            with self.subTest(desks=desks):
                self.assertEqual(last(begin(desks), same(desks - 1, 0)), [1, 1])
                self.assertEqual(last(begin(desks), same(0, desks - 1)), [1, 1])
                for wrong in (desks, GREATEST):
                    self.assertEqual(last(begin(desks), same(wrong, 0)), [-2])
                    self.assertEqual(last(begin(desks), same(0, wrong)), [-2])
                    self.assertEqual(last(begin(desks), same(wrong, wrong)), [-2])


class Tree(unittest.TestCase):
    def test_empty(self):
        self.assertEqual(last(tree(0)), [0])
        self.assertEqual(last(begin(8), tree(7)), [0])
        self.assertEqual(last(move(0, 5, 0), undo(0), tree(0)), [0])
        self.assertEqual(last(move(0, 5, 6), tree(0)), [0])

    def test_by_numbers_under_each_thing_each_followed_by_all_within_it(self):
        calls = [move(0, 9, 0, 1), move(0, 40, 9, 2), move(0, 3, 9, 3), move(0, 2, 40, 4), move(0, 5, 0, 5),
                 move(0, 63, 3, 6), move(0, 10, 0, 7), move(0, 4, 3, 8)]
        self.assertEqual(last(*calls, tree(0)),
                         [8, 5, 1, 5, 9, 1, 1, 3, 2, 3, 4, 3, 8, 63, 3, 6, 40, 2, 2, 2, 3, 4, 10, 1, 7])

    def test_by_numbers_and_not_by_their_first_digits(self):
        calls = [move(0, thing, 0) for thing in (20, 3, 11, 2)]
        self.assertEqual(last(*calls, tree(0)), [4, 2, 1, 0, 3, 1, 0, 11, 1, 0, 20, 1, 0])

    def test_labels(self):
        calls = [move(0, 5, 0, 0), move(0, 6, 0, MOST_LABEL), move(0, 7, 0, 1), move(0, 7, 0, 2)]
        self.assertEqual(last(*calls, tree(0)), [3, 5, 1, 0, 6, 1, MOST_LABEL, 7, 1, 2])

    def test_what_is_under_the_bin_is_not_told(self):
        calls = [move(0, 5, 1, 1), move(0, 6, 5, 2), move(0, 7, 0, 3), move(0, 8, 7, 4)]
        self.assertEqual(last(*calls, tree(0)), [2, 7, 1, 3, 8, 2, 4])
        self.assertEqual(last(*calls, move(0, 7, 6, 5), tree(0)), [0])
        self.assertEqual(last(*calls, move(0, 6, 0, 5), tree(0)), [3, 6, 1, 5, 7, 1, 3, 8, 2, 4])
        self.assertEqual(last(*calls, move(0, 5, 8, 6), tree(0)), [4, 7, 1, 3, 8, 2, 4, 5, 3, 6, 6, 4, 2])

    def test_a_chain_of_all_things(self):
        down = [move(0, thing, max(thing - 1, 2) if thing > 2 else 0, thing * 3) for thing in range(2, 64)]
        rows = [[thing, thing - 1, thing * 3] for thing in range(2, 64)]
        self.assertEqual(last(*down, tree(0)), [62] + flat(rows))
        up = [move(0, thing, thing + 1 if thing < 63 else 0) for thing in range(63, 1, -1)]
        self.assertEqual(last(*up, tree(0)), [62] + flat([thing, 64 - thing, 0] for thing in range(63, 1, -1)))

    def test_a_chain_of_all_things_under_the_bin(self):
        chain = [move(0, 2, 1)] + [move(0, thing, thing - 1) for thing in range(3, 64)]
        self.assertEqual(last(*chain, tree(0)), [0])
        self.assertEqual(last(*chain, move(0, 3, 0), tree(0)), [61] + flat([t, t - 2, 0] for t in range(3, 64)))

    def test_all_things_right_under_the_root(self):
        calls = [move(0, thing, 0, 1) for thing in range(63, 1, -1)]
        self.assertEqual(last(*calls, tree(0)), [62] + flat([thing, 1, 1] for thing in range(2, 64)))

    def test_depths_change_as_things_go_along(self):
        calls = [move(0, 5, 0), move(0, 6, 5), move(0, 7, 6), move(0, 8, 0)]
        self.assertEqual(last(*calls, tree(0)), [4, 5, 1, 0, 6, 2, 0, 7, 3, 0, 8, 1, 0])
        self.assertEqual(last(*calls, move(0, 5, 8), tree(0)), [4, 8, 1, 0, 5, 2, 0, 6, 3, 0, 7, 4, 0])
        self.assertEqual(last(*calls, move(0, 7, 0), tree(0)), [4, 5, 1, 0, 6, 2, 0, 7, 1, 0, 8, 1, 0])

    def test_each_desk_has_its_own(self):
        rows = ask(begin(3), move(0, 5, 0, 1), move(1, 5, 0, 2), move(1, 6, 5, 3), tree(0), tree(1), tree(2),
                   tell(0, 2), tell(2, 2), tree(2), tell(1, 2), tree(2))
        self.assertEqual(rows[4:], [[1, 5, 1, 1], [2, 5, 1, 2, 6, 2, 3], [0],
                                    [1], [2], [2, 5, 1, 1, 6, 2, 3], [3], [2, 5, 1, 2, 6, 2, 3]])


class Deeds(unittest.TestCase):
    def test_none(self):
        self.assertEqual(last(deeds(0)), [0])
        self.assertEqual(last(begin(2), move(0, 5, 0), deeds(1)), [0])

    def test_what_comes_of_each_and_what_does_not_hold(self):
        calls = [move(0, 5, 0), move(0, 6, 9), move(0, 5, 5), move(0, 7, 0), back(0, 3), move(0, 8, 5), move(0, 9, 7)]
        self.assertEqual(last(*calls, deeds(0)), [6, 0, 1, 1, 2, 2, 3, 3, 0, 5, 1, 6, 2])

    def test_takings_back_and_doings_again_are_no_moves(self):
        calls = [move(0, 5, 0), back(0, 0), again(0, 0), undo(0)]
        self.assertEqual([last(*calls[:size], deeds(0)) for size in range(1, 5)],
                         [[1, 0, 1], [1, 0, 0], [1, 0, 1], [1, 0, 0]])

    def test_what_comes_changes_with_what_holds(self):
        calls = [move(0, 5, 0), move(0, 6, 5), move(0, 5, 6)]
        self.assertEqual(last(*calls, deeds(0)), [3, 0, 1, 1, 1, 2, 3])
        self.assertEqual(last(*calls, back(0, 0), deeds(0)), [3, 0, 0, 1, 2, 2, 2])
        self.assertEqual(last(*calls, back(0, 1), deeds(0)), [3, 0, 1, 1, 0, 2, 2])
        self.assertEqual(last(*calls, back(0, 2), deeds(0)), [3, 0, 1, 1, 1, 2, 0])

    def test_the_earliest_stamp_first(self):
        calls = [begin(2), move(1, 5, 0), move(1, 6, 5), move(0, 6, 5), meet(0, 1)]
        self.assertEqual(ask(*calls, deeds(0), deeds(1))[5:], [[3, 2, 2, 0, 1, 1, 1]] * 2)

    def test_in_one_list_0_1_2_and_3_from_several_desks(self):
        calls = [begin(3), move(2, 5, 0), move(1, 6, 0), meet(1, 2), move(2, 6, 5), move(1, 5, 6), move(0, 7, 5),
                 move(0, 8, 0), back(0, 5), meet(0, 1), meet(0, 2)]
        # By stamps: 4 (1, 0), 1 (1, 1), 0 (1, 2), 5 (2, 0), 3 (2, 1), 2 (2, 2).
        self.assertEqual(last(*calls, deeds(2)), [6, 4, 2, 1, 1, 0, 1, 5, 0, 3, 1, 2, 3])

    def test_120_moves(self):
        calls = [move(0, 5, 0, label) for label in range(120)]
        self.assertEqual(last(*calls, deeds(0)), [120] + flat([number, 1] for number in range(120)))


class Same(unittest.TestCase):
    def check(self, told, *calls):
        """At desks 0 and 1, asked both ways round."""
        self.assertEqual(ask(begin(2), *calls, same(0, 1), same(1, 0))[-2:], [told, told])

    def test_a_desk_with_itself(self):
        self.assertEqual(last(same(0, 0)), [1, 1])
        self.assertEqual(last(begin(2), move(1, 5, 0), same(1, 1)), [1, 1])

    def test_the_same_deeds(self):
        self.check([1, 1])
        self.check([1, 1], move(0, 5, 0, 1), move(1, 5, 1, 2), meet(0, 1))
        self.check([1, 1], move(0, 5, 0), undo(0), tell(0, 1), tell(1, 1))
        self.check([1, 1], move(0, 5, 0), move(0, 6, 0), tell(1, 1), tell(0, 1))

    def test_other_deeds_with_the_same_tree(self):
        self.check([0, 1], move(0, 5, 0, 3), move(1, 5, 0, 3))
        self.check([0, 1], move(0, 5, 0), undo(0))
        self.check([0, 1], move(0, 5, 6))
        self.check([0, 1], move(0, 5, 0), meet(0, 1), undo(0), undo(0), again(0, 0))
        self.check([0, 1], move(0, 5, 0), undo(0), tell(1, 1))
        self.check([0, 1], move(0, 5, 0), move(0, 6, 5), move(1, 6, 0), move(1, 5, 0), move(1, 6, 5))

    def test_as_many_deeds_but_others(self):
        self.check([0, 0], move(0, 5, 0), move(1, 6, 0))

    def test_all_deeds_but_one(self):
        self.check([0, 0], move(0, 5, 0), meet(0, 1), move(0, 6, 0))
        self.check([0, 0], move(0, 5, 0), meet(0, 1), undo(0))

    def test_trees_that_differ_in_a_label_alone(self):
        self.check([0, 0], move(0, 5, 0, 3), move(1, 5, 0, 4))
        self.check([0, 0], move(0, 5, 0, 3), meet(0, 1), move(0, 5, 0, 4))

    def test_trees_that_differ_under_the_bin_alone(self):
        self.check([0, 0], move(0, 5, 1))
        self.check([0, 0], move(0, 5, 1, 3), move(1, 5, 1, 4))
        self.check([0, 0], move(0, 5, 1), meet(0, 1), move(0, 6, 5))
        self.check([0, 0], move(0, 5, 1), move(0, 6, 1), meet(0, 1), move(0, 6, 5))
        self.assertEqual(last(begin(2), move(0, 5, 1), tree(0)), last(begin(2), move(0, 5, 1), tree(1)))

    def test_trees_that_differ_in_what_a_thing_is_under(self):
        self.check([0, 0], move(0, 5, 0), move(0, 6, 0), meet(0, 1), move(1, 6, 5))
        self.check([0, 0], move(0, 5, 0), move(1, 5, 1))

    def test_of_the_two_desks_that_are_named(self):
        ahead = [begin(3), move(0, 5, 0), move(2, 5, 0), meet(0, 1)]
        self.assertEqual(ask(*ahead, same(0, 1), same(1, 2), same(2, 0))[4:], [[1, 1], [0, 1], [0, 1]])


if __name__ == "__main__":
    unittest.main()
