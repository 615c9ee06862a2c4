"""Several desks that know of one another's deeds: stamps, what comes of moves, undo and redo."""

import unittest

from tests.helper import (GREATEST, again, ask, assert_tree, back, begin, deeds, last, meet, move, redo, same, tell, tree,
                          undo, would)


class Stamps(unittest.TestCase):
    def test_of_the_same_count_the_lesser_desk_first(self):
        calls = [begin(4)] + [move(desk, 5, 0, desk) for desk in (2, 0, 3, 1)]
        rows = ask(*calls, *[tell(number, desk) for desk in (0, 3) for number in range(4)],
                   deeds(0), tree(0), deeds(3), tree(3), same(0, 3))
        self.assertEqual(rows[13:], [[4, 1, 1, 3, 1, 0, 1, 2, 1], [1, 5, 1, 3]] * 2 + [[1, 1]])

    def test_the_lesser_count_ahead_of_the_lesser_desk(self):
        rows = ask(begin(2), move(0, 5, 0, 1), move(0, 5, 0, 2), move(1, 5, 0, 3), meet(0, 1), deeds(0), tree(1))
        self.assertEqual(rows[5:], [[3, 0, 1, 2, 1, 1, 1], [1, 5, 1, 2]])

    def test_one_above_the_greatest_count_that_the_desk_knows(self):
        # Desk 1 is told of the third move alone, so its own has count 4: between desk 0's fourth and fifth.
        ahead = [begin(2)] + [move(0, 5, 0)] * 3 + [tell(2, 1), move(1, 6, 0)] + [move(0, 5, 0)] * 2
        self.assertEqual(last(*ahead, meet(0, 1), deeds(0)), [6, 0, 1, 1, 1, 2, 1, 4, 1, 3, 1, 5, 1])

    def test_the_greatest_and_not_the_last_told(self):
        ahead = [begin(2)] + [move(0, 5, 0)] * 3 + [tell(2, 1), tell(0, 1), move(1, 6, 0), move(0, 5, 0), meet(0, 1)]
        self.assertEqual(last(*ahead, deeds(1)), [5, 0, 1, 1, 1, 2, 1, 4, 1, 3, 1])

    def test_an_earlier_deed_that_is_told_changes_no_count(self):
        ahead = [begin(2), move(0, 5, 0), move(1, 6, 0), move(1, 6, 0), tell(0, 1), move(1, 7, 0), move(0, 8, 0),
                 move(0, 8, 0), move(0, 8, 0), meet(0, 1)]
        # Desk 1's third has count 3 and stands between desk 0's third and fourth.
        self.assertEqual(last(*ahead, deeds(0)), [7, 0, 1, 1, 1, 4, 1, 2, 1, 5, 1, 3, 1, 6, 1])

    def test_takings_back_and_doings_again_have_counts_too(self):
        # Desk 2's moves 0 to 3 have the counts 1 to 4; desk 0's deeds 4 to 6 those from 1 to 3.
        ahead = [begin(3)] + [move(2, 5, 0)] * 4 + [move(0, 6, 0), undo(0), redo(0)]
        for number, order in ((4, [4, 0, 7, 1, 2, 3]), (5, [0, 1, 7, 2, 3]), (6, [0, 1, 2, 7, 3])):
            with self.subTest(number=number):
                rows = ask(*ahead, tell(number, 1), move(1, 7, 0), meet(1, 2), deeds(2))
                self.assertEqual(rows[-1][1::2], order)

    def test_what_is_no_deed_takes_no_count(self):
        between = [tree(1), deeds(1), same(0, 1), would(1, 0), would(1, 1), meet(1, 1), move(1, 0, 0), back(1, 0),
                   again(1, 0), undo(1), redo(1), tell(9, 1), meet(1, 2)]
        ahead = [begin(2), move(0, 5, 0), *between, move(1, 6, 0), move(0, 7, 0), meet(0, 1)]
        self.assertEqual(last(*ahead, deeds(1)), [3, 0, 1, 1, 1, 2, 1])

    def test_behind_meet_both_go_on_from_the_same_count(self):
        ahead = [begin(2)] + [move(1, 5, 0)] * 4 + [meet(0, 1), move(1, 6, 0, 1), move(0, 6, 0, 2), meet(0, 1)]
        self.assertEqual(ask(*ahead, deeds(0), tree(0))[-2:],
                         [[6, 0, 1, 1, 1, 2, 1, 3, 1, 5, 1, 4, 1], [2, 5, 1, 0, 6, 1, 1]])

    def test_a_desks_deed_is_later_than_all_that_it_knows(self):
        ahead = [begin(8)] + [move(7, 5, 0, label) for label in range(5)] + [tell(4, 0)]
        self.assertEqual(ask(*ahead, tree(0), move(0, 5, 1, 9), tree(0), deeds(0))[7:],
                         [[1, 5, 1, 4], [5, 1], [0], [2, 4, 1, 5, 1]])


class AnEarlierMoveComesLater(unittest.TestCase):
    """A move that is learned late, but whose stamp is earlier, changes what comes of the known ones."""

    def test_from_2_to_1(self):
        rows = ask(begin(2), move(0, 5, 0), move(1, 6, 5), deeds(1), tell(0, 1), deeds(1), tree(1))
        self.assertEqual(rows[2:], [[1, 2], [1, 1, 2], [2], [2, 0, 1, 1, 1], [2, 5, 1, 0, 6, 2, 0]])

    def test_a_later_stamp_does_not(self):
        rows = ask(begin(2), move(1, 5, 0), move(0, 6, 5), deeds(0), tell(0, 0), deeds(0), tree(0))
        self.assertEqual(rows[2:], [[1, 2], [1, 1, 2], [2], [2, 1, 2, 0, 1], [1, 5, 1, 0]])

    def test_from_1_to_3(self):
        ahead = [begin(2), move(0, 5, 0), move(0, 6, 0), meet(0, 1), move(0, 5, 6), move(1, 6, 5)]
        rows = ask(*ahead, deeds(1), tell(2, 1), deeds(1), tree(1), tell(3, 0), deeds(0), same(0, 1))
        self.assertEqual(rows[4:], [[2, 1], [3, 1], [3, 0, 1, 1, 1, 3, 1], [4], [4, 0, 1, 1, 1, 2, 1, 3, 3],
                                    [2, 6, 1, 0, 5, 2, 0], [4], [4, 0, 1, 1, 1, 2, 1, 3, 3], [1, 1]])

    def test_from_3_to_1(self):
        ahead = [begin(2), move(0, 5, 0), move(0, 6, 5), meet(0, 1), move(0, 6, 0), move(1, 5, 6)]
        rows = ask(*ahead, deeds(1), tell(2, 1), deeds(1), tree(1))
        self.assertEqual(rows[4:], [[2, 1], [3, 3], [3, 0, 1, 1, 1, 3, 3], [4], [4, 0, 1, 1, 1, 2, 1, 3, 1],
                                    [2, 6, 1, 0, 5, 2, 0]])

    def test_from_2_to_3(self):
        # 6 isn't there for desk 1, which puts 5 under it; desk 0 had put 6 under 5.
        ahead = [begin(2), move(0, 5, 0), meet(0, 1), move(0, 6, 5), move(1, 5, 6)]
        rows = ask(*ahead, tell(1, 1), deeds(1))
        self.assertEqual(rows[3:], [[1, 1], [2, 2], [3], [3, 0, 1, 1, 1, 2, 3]])

    def test_from_1_to_2_by_a_taking_back(self):
        ahead = [begin(2), move(0, 5, 0), meet(0, 1), move(1, 6, 5), undo(0)]
        self.assertEqual(ask(*ahead, deeds(1), tell(2, 1), deeds(1), tree(1))[5:],
                         [[2, 0, 1, 1, 1], [3], [2, 0, 0, 1, 2], [0]])

    def test_the_last_word_is_with_the_later_stamp(self):
        rows = ask(begin(2), move(1, 5, 0, 1), move(0, 5, 1, 2), tree(0), tell(0, 0), tree(0), tell(1, 1), tree(1))
        self.assertEqual(rows[3:], [[0], [2], [1, 5, 1, 1], [2], [1, 5, 1, 1]])


class UndoAmongOthers(unittest.TestCase):
    def test_the_desks_own_though_others_are_later(self):
        ahead = [begin(2), move(0, 5, 0, 1), move(1, 6, 0, 2), move(1, 6, 0, 3), meet(0, 1)]
        rows = ask(*ahead, undo(0), undo(0), tree(0), deeds(0), deeds(1), undo(1), undo(1), undo(1))
        self.assertEqual(rows[5:], [[0, 5], [-3], [1, 6, 1, 3], [3, 0, 0, 1, 1, 2, 1], [3, 0, 1, 1, 1, 2, 1],
                                    [2, 6], [1, 6], [-3]])

    def test_the_last_of_its_own_by_stamps(self):
        ahead = [begin(2), move(0, 5, 0), move(0, 6, 0), meet(0, 1), move(1, 7, 0), meet(0, 1), move(0, 8, 0)]
        self.assertEqual(ask(*ahead, undo(0), undo(0), undo(0), undo(0))[7:], [[3, 8], [1, 6], [0, 5], [-3]])

    def test_none_of_its_own(self):
        ahead = [begin(2), move(0, 5, 0), move(0, 6, 0), undo(0), meet(0, 1)]
        self.assertEqual(ask(*ahead, undo(1), redo(1), back(1, 0), again(1, 1))[5:], [[-3]] * 4)

    def test_what_others_put_there_goes_and_comes_along(self):
        ahead = [begin(2), move(0, 5, 0, 1), meet(0, 1), move(1, 6, 5, 2), move(1, 7, 6, 3), meet(0, 1)]
        rows = ask(*ahead, undo(0), tree(0), deeds(0), redo(0), tree(0), deeds(0))
        self.assertEqual(rows[6:], [[0, 5, 6, 7], [0], [3, 0, 0, 1, 2, 2, 2],
                                    [0, 5, 6, 7], [3, 5, 1, 1, 6, 2, 2, 7, 3, 3], [3, 0, 1, 1, 1, 2, 1]])

    def test_what_others_did_to_the_thing_stays(self):
        ahead = [begin(2), move(0, 5, 0, 1), meet(0, 1), move(1, 5, 1, 2), move(1, 6, 0, 3), meet(0, 1)]
        self.assertEqual(ask(*ahead, undo(0), redo(0))[6:], [[0], [0]])
        assert_tree(self, ahead + [undo(0)], 0, {5: (1, 2), 6: (0, 3)})

    def test_a_move_that_anothers_move_kept_from_being_done(self):
        # 6 goes under 5 at desk 1 once desk 0's later-known move of 5 under 6 is taken back.
        ahead = [begin(2), move(0, 5, 0), move(0, 6, 0), meet(0, 1), move(0, 5, 6), move(1, 6, 5), meet(0, 1)]
        rows = ask(*ahead, deeds(1), undo(0), deeds(0), deeds(1), tell(4, 1), deeds(1), tree(1))
        self.assertEqual(rows[7:], [[4, 0, 1, 1, 1, 2, 1, 3, 3], [2, 5, 6], [4, 0, 1, 1, 1, 2, 0, 3, 1],
                                    [4, 0, 1, 1, 1, 2, 1, 3, 3], [5], [4, 0, 1, 1, 1, 2, 0, 3, 1],
                                    [2, 5, 1, 0, 6, 2, 0]])

    def test_what_holds_at_this_desk(self):
        # Desk 1 doesn't know yet that desk 0 took its move back; that is nothing to desk 1's own undo.
        ahead = [begin(2), move(0, 5, 0), meet(0, 1), undo(0), move(1, 6, 5)]
        self.assertEqual(ask(*ahead, undo(1), tell(1, 1), redo(1), undo(1))[5:], [[2, 6], [4], [2], [2]])


class RedoAmongOthers(unittest.TestCase):
    def test_anothers_later_move_shuts_nothing_off(self):
        ahead = [begin(2), move(0, 5, 0), undo(0), meet(0, 1), move(1, 6, 0), meet(0, 1)]
        self.assertEqual(ask(*ahead, redo(1), redo(0), redo(0))[6:], [[-3], [0, 5], [-3]])

    def test_its_own_later_move_does(self):
        ahead = [begin(2), move(0, 5, 0), undo(0), meet(0, 1), move(1, 6, 0), meet(0, 1), move(0, 7, 6)]
        self.assertEqual(last(*ahead, redo(0)), [-3])

    def test_anothers_later_taking_back_is_not_its_own(self):
        ahead = [begin(2), move(0, 5, 0), move(1, 6, 0), undo(0), meet(0, 1), undo(1), meet(0, 1)]
        self.assertEqual(ask(*ahead, redo(0), redo(0))[7:], [[0, 5], [-3]])
        self.assertEqual(ask(*ahead, redo(1), redo(1))[7:], [[1, 6], [-3]])

    def test_anothers_doing_again_changes_nothing(self):
        ahead = [begin(2), move(0, 5, 0), move(1, 6, 0), undo(0), undo(1), meet(0, 1), redo(1), meet(0, 1)]
        self.assertEqual(ask(*ahead, redo(0), redo(1), undo(0), undo(1))[8:], [[0, 5], [-3], [0, 5], [1, 6]])

    def test_undo_and_redo_between_deeds_that_are_told(self):
        ahead = [begin(2), move(0, 5, 0, 1), move(0, 6, 5, 2), undo(0), undo(0)]
        # Desk 1 knows of 5 from before it was taken back, and puts 7 there.
        rows = ask(*ahead, tell(0, 1), move(1, 7, 5, 3), tell(4, 0), tree(0), redo(0), tree(0), tell(3, 1), tree(1),
                   redo(0), tree(0))
        self.assertEqual(rows[5:], [[1], [4, 1], [5], [0], [0, 5, 7], [2, 5, 1, 1, 7, 2, 3], [3], [0],
                                    [1, 6], [3, 5, 1, 1, 6, 2, 2, 7, 2, 3]])

    def test_back_and_again_of_a_move_from_long_ago(self):
        ahead = [begin(3), move(0, 5, 0, 1), meet(0, 1), move(1, 6, 5, 2), meet(1, 2), move(2, 7, 6, 3), meet(2, 0)]
        rows = ask(*ahead, back(0, 0), redo(0), back(0, 0), move(0, 8, 0), again(0, 0), back(2, 2), redo(2), back(1, 1))
        self.assertEqual(rows[7:], [[0, 5, 6, 7], [0, 5, 6, 7], [0, 5, 6, 7], [6, 1], [0, 5, 6, 7],
                                    [2, 7], [2, 7], [1, 6]])


class BeginInTheMidst(unittest.TestCase):
    AHEAD = [begin(3), move(0, 5, 0, 1), move(2, 6, 0, 2), meet(0, 2), tell(0, 1), undo(0)]

    def check_new(self, desks):
        shown = [call for desk in range(desks) for call in (tree(desk), deeds(desk), same(desk, desks - 1))]
        rows = ask(*self.AHEAD, begin(desks), *shown, undo(0), redo(0), back(0, 0), again(0, 0), would(0, 0), tell(0, 0),
                   meet(0, desks - 1), move(desks - 1, 7, 5), move(0, 8, 0))
        self.assertEqual(rows[6:], [[0]] + [[0], [0], [1, 1]] * desks + [[-3]] * 5 + [[-2], [0, 0, 0], [0, 2], [1, 1]])

    def test_with_more_as_many_and_fewer(self):
        for desks in (8, 4, 3, 2, 1):
            with self.subTest(desks=desks):
                self.check_new(desks)

    def test_the_new_desks_are_there_and_no_others(self):
        for desks in (8, 3, 1):
            with self.subTest(desks=desks):
                calls = [tree(desks), deeds(desks), same(desks, 0), same(0, desks), meet(desks, 0), meet(0, desks),
                         move(desks, 5, 0), would(desks, 0), undo(desks), redo(desks), tell(0, desks)]
                self.assertEqual(ask(*self.AHEAD, begin(desks), move(desks - 1, 5, 0), *calls)[7:], [[0, 1]] + [[-2]] * 11)

    def test_stamps_begin_anew_at_every_desk(self):
        rows = ask(*self.AHEAD, begin(2), move(1, 5, 0, 1), move(0, 5, 0, 2), meet(0, 1), deeds(0), tree(0))
        self.assertEqual(rows[9:], [[2, 1, 1], [2, 1, 1, 0, 1], [1, 5, 1, 1]])

    def test_refused_leaves_what_each_desk_knows(self):
        shown = [call for desk in range(3) for call in (tree(desk), deeds(desk))] + [same(0, 2), redo(0), move(2, 7, 5)]
        for desks in (0, 9, GREATEST):
            with self.subTest(desks=desks):
                rows = ask(*self.AHEAD, begin(desks), *shown)
                self.assertEqual(rows[6], [-1])
                self.assertEqual(rows[:6] + rows[7:], ask(*self.AHEAD, *shown))


if __name__ == "__main__":
    unittest.main()
