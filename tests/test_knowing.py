"""tell and meet: how a desk comes to know of others' deeds."""

import itertools
import unittest

from tests.helper import GREATEST, again, ask, back, begin, deeds, last, meet, move, redo, same, tell, tree, undo


class Tell(unittest.TestCase):
    def test_how_many_deeds_the_desk_knows_then(self):
        calls = [begin(2), move(1, 9, 0), move(0, 5, 0, 7), back(0, 1), again(0, 1)]
        self.assertEqual(ask(*calls, tell(1, 1), tell(2, 1), tell(3, 1), tell(0, 0))[5:], [[2], [3], [4], [4]])

    def test_the_deed_comes_first_and_then_the_desk(self):
        self.assertEqual(ask(begin(2), move(0, 5, 0), tell(0, 1), tell(1, 0))[2:], [[1], [-2]])
        self.assertEqual(ask(move(0, 5, 0), move(0, 6, 0), tell(1, 0), tell(0, 1))[2:], [[2], [-2]])

    def test_what_is_told_is_known_there_alone(self):
        rows = ask(begin(3), move(0, 5, 0, 7), move(0, 6, 5, 8), tell(0, 1), tree(0), tree(1), tree(2), deeds(1), deeds(2))
        self.assertEqual(rows[3:], [[1], [2, 5, 1, 7, 6, 2, 8], [1, 5, 1, 7], [0], [1, 0, 1], [0]])

    def test_a_deed_that_it_knew(self):
        rows = ask(begin(2), move(0, 5, 0), tell(0, 0), tell(0, 1), tell(0, 1), deeds(0), deeds(1), same(0, 1))
        self.assertEqual(rows[2:], [[1], [1], [1], [1, 0, 1], [1, 0, 1], [1, 1]])

    def test_a_deed_that_it_knew_by_meeting(self):
        rows = ask(begin(2), move(0, 5, 0), undo(0), meet(0, 1), tell(1, 1), tell(0, 1))
        self.assertEqual(rows[3:], [[2, 0, 2], [2], [2]])

    def test_no_such_deed(self):
        self.assertEqual(ask(tell(0, 0), tell(GREATEST, 0)), [[-2], [-2]])
        calls = [begin(2), move(0, 5, 0), undo(0)]
        for number, told in ((0, [1]), (1, [1]), (2, [-2]), (3, [-2]), (GREATEST, [-2])):
            with self.subTest(number=number):
                self.assertEqual(last(*calls, tell(number, 1)), told)

    def test_no_such_desk(self):
        for desks in (1, 3, 8):
            calls = [begin(desks), move(0, 5, 0)]
            with self.subTest(desks=desks):
                self.assertEqual(last(*calls, tell(0, desks - 1)), [1])
                self.assertEqual(last(*calls, tell(0, desks)), [-2])
                self.assertEqual(last(*calls, tell(0, GREATEST)), [-2])
                self.assertEqual(last(*calls, tell(1, desks)), [-2])

    def test_a_refused_deed_is_not_there(self):
        self.assertEqual(ask(move(0, 1, 0), undo(0), tell(0, 0)), [[-1], [-3], [-2]])

    def test_the_last_deed_of_120(self):
        rows = ask(begin(2), *[move(0, 5, 0, label) for label in range(121)], tell(119, 1), tell(120, 1), tree(1))
        self.assertEqual(rows[121:], [[-5], [1], [-2], [1, 5, 1, 119]])


class OutOfOrder(unittest.TestCase):
    def test_a_taking_back_ahead_of_its_move(self):
        rows = ask(begin(2), move(0, 5, 0), back(0, 0), tell(1, 1), deeds(1), tree(1), tell(0, 1), deeds(1), tree(1))
        self.assertEqual(rows[3:], [[1], [0], [0], [2], [1, 0, 0], [0]])

    def test_a_doing_again_ahead_of_its_move_and_its_taking_back(self):
        rows = ask(begin(2), move(0, 5, 0, 3), back(0, 0), again(0, 0), tell(2, 1), deeds(1), tell(0, 1), deeds(1),
                   tell(1, 1), deeds(1), tree(1))
        self.assertEqual(rows[4:], [[1], [0], [2], [1, 0, 1], [3], [1, 0, 1], [1, 5, 1, 3]])

    def test_a_move_holds_by_what_the_desk_knows(self):
        rows = ask(begin(3), move(0, 5, 0, 3), meet(0, 1), meet(0, 2), undo(0), deeds(1), tell(1, 1), deeds(1), deeds(2),
                   redo(0), deeds(1), deeds(0), tell(2, 2), deeds(2), tell(1, 2), deeds(2))
        self.assertEqual(rows[5:], [[1, 0, 1], [2], [1, 0, 0], [1, 0, 1], [0, 5], [1, 0, 0], [1, 0, 1],
                                    [2], [1, 0, 1], [3], [1, 0, 1]])

    def test_every_order_ends_alike(self):
        calls = [begin(3), move(0, 5, 0, 1), meet(0, 1), move(1, 6, 5, 2), undo(0), move(0, 7, 6, 3),
                 again(0, 0), meet(0, 1)]
        shown = ask(*calls, deeds(0), tree(0))[-2:]
        self.assertEqual(shown, [[3, 0, 1, 1, 1, 3, 1], [3, 5, 1, 1, 6, 2, 2, 7, 3, 3]])
        for order in itertools.permutations(range(5)):
            with self.subTest(order=order):
                rows = ask(*calls, *[tell(number, 2) for number in order], deeds(2), tree(2), same(2, 0))
                self.assertEqual(rows[8:], [[1], [2], [3], [4], [5], *shown, [1, 1]])

    def test_what_comes_of_a_move_changes_as_others_are_told(self):
        # A chain told from its end: each move becomes doable once what is ahead of it is known.
        calls = [begin(2), move(0, 5, 0), move(0, 6, 5), move(0, 7, 6)]
        rows = ask(*calls, tell(2, 1), deeds(1), tell(1, 1), deeds(1), tell(0, 1), deeds(1))
        self.assertEqual(rows[4:], [[1], [1, 2, 2], [2], [2, 1, 2, 2, 2], [3], [3, 0, 1, 1, 1, 2, 1]])


class Meet(unittest.TestCase):
    def test_neither_learns(self):
        self.assertEqual(last(begin(2), meet(0, 1)), [0, 0, 0])
        self.assertEqual(last(begin(2), move(0, 5, 0), meet(0, 1), meet(1, 0)), [1, 0, 0])

    def test_one_learns(self):
        ahead = [begin(2), move(0, 5, 0), move(0, 6, 0)]
        self.assertEqual(last(*ahead, meet(0, 1)), [2, 0, 2])
        self.assertEqual(last(*ahead, meet(1, 0)), [2, 2, 0])

    def test_both_learn(self):
        ahead = [begin(2), move(0, 5, 0), move(0, 6, 0), move(1, 7, 0)]
        self.assertEqual(last(*ahead, meet(0, 1)), [3, 1, 2])
        self.assertEqual(last(*ahead, meet(1, 0)), [3, 2, 1])

    def test_both_learn_besides_what_both_knew(self):
        ahead = [begin(2), move(0, 5, 0), meet(0, 1), move(0, 6, 0), move(0, 8, 0), undo(0), move(1, 7, 0)]
        self.assertEqual(last(*ahead, meet(0, 1)), [5, 1, 3])
        self.assertEqual(ask(*ahead, tell(3, 0), tell(1, 1), meet(1, 0), meet(0, 1))[7:], [[4], [3], [5, 2, 1], [5, 0, 0]])

    def test_a_desk_with_itself(self):
        self.assertEqual(last(meet(0, 0)), [0, 0, 0])
        rows = ask(begin(2), move(1, 5, 0), undo(1), meet(1, 1), deeds(1), deeds(0), redo(1), meet(1, 1))
        self.assertEqual(rows[3:], [[2, 0, 0], [1, 0, 0], [0], [0, 5], [3, 0, 0]])

    def test_both_know_all_that_either_knew(self):
        rows = ask(begin(3), move(0, 5, 0, 1), move(1, 6, 0, 2), meet(0, 1), tree(0), tree(1), deeds(0), deeds(1),
                   same(0, 1), tree(2), same(0, 2))
        self.assertEqual(rows[4:], [[2, 5, 1, 1, 6, 1, 2]] * 2 + [[2, 0, 1, 1, 1]] * 2 + [[1, 1], [0], [0, 0]])

    def test_what_is_done_behind_it_is_the_desks_own(self):
        rows = ask(begin(2), move(0, 5, 0, 1), meet(0, 1), move(0, 6, 0, 2), tree(1), deeds(1), same(0, 1),
                   move(1, 7, 0, 3), tree(0), deeds(0), undo(0), deeds(1), back(0, 0), deeds(1), meet(0, 1))
        self.assertEqual(rows[4:7], [[1, 5, 1, 1], [1, 0, 1], [0, 0]])
        self.assertEqual(rows[8:10], [[2, 5, 1, 1, 6, 1, 2], [2, 0, 1, 1, 1]])
        self.assertEqual(rows[11:], [[2, 0, 1, 2, 1], [0, 5], [2, 0, 1, 2, 1], [5, 1, 3]])

    def test_what_one_is_told_behind_it_is_not_known_to_the_other(self):
        rows = ask(begin(3), move(2, 5, 0), meet(0, 1), tell(0, 0), deeds(0), deeds(1), meet(1, 0))
        self.assertEqual(rows[3:], [[1], [1, 0, 1], [0], [1, 1, 0]])

    def test_it_hands_on_what_was_learned(self):
        rows = ask(begin(4), move(0, 5, 0, 9), meet(0, 1), meet(1, 2), meet(2, 3), tree(3), deeds(3))
        self.assertEqual(rows[3:], [[1, 0, 1], [1, 0, 1], [1, 5, 1, 9], [1, 0, 1]])

    def test_no_such_desk(self):
        for desks in (1, 3, 8):
            ahead = [begin(desks), move(0, 5, 0)]
            with self.subTest(desks=desks):
                self.assertEqual(last(*ahead, meet(desks - 1, 0))[0], 1)
                self.assertEqual(last(*ahead, meet(0, desks - 1))[0], 1)
                for wrong in (desks, GREATEST):
                    self.assertEqual(last(*ahead, meet(wrong, 0)), [-2])
                    self.assertEqual(last(*ahead, meet(0, wrong)), [-2])
                    self.assertEqual(last(*ahead, meet(wrong, wrong)), [-2])

    def test_all_deeds_of_a_full_house(self):
        rows = ask(begin(2), *[move(step % 2, 5, 0) for step in range(120)], move(0, 5, 0), meet(0, 1), same(0, 1))
        self.assertEqual(rows[121:], [[-5], [120, 60, 60], [1, 1]])


if __name__ == "__main__":
    unittest.main()
