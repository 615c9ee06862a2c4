"""back, again, undo and redo: what they answer, choose and refuse."""

import unittest

from tests.helper import GREATEST, MOST_LABEL, again, ask, assert_tree, back, begin, last, move, redo, undo


class NoSuchDesk(unittest.TestCase):
    def test_desks(self):
        for desks in (1, 3, 8):
            ahead = [begin(desks), move(desks - 1, 5, 0), move(desks - 1, 6, 0), back(desks - 1, 1)]
            for name, call, told in (("back", lambda desk: back(desk, 0), [0, 5]),
                                     ("again", lambda desk: again(desk, 1), [1, 6]),
                                     ("undo", undo, [0, 5]), ("redo", redo, [1, 6])):
                with self.subTest(name=name, desks=desks):
                    self.assertEqual(last(*ahead, call(desks - 1)), told)
                    self.assertEqual(last(*ahead, call(desks)), [-2])
                    self.assertEqual(last(*ahead, call(GREATEST)), [-2])


class Back(unittest.TestCase):
    def test_the_move_and_the_things(self):
        calls = [move(0, 9, 0, 1), move(0, 5, 9, 2), move(0, 7, 5, 3)]
        self.assertEqual(last(*calls, back(0, 0)), [0, 5, 7, 9])
        self.assertEqual(last(*calls, back(0, 1)), [1, 5, 7])
        self.assertEqual(last(*calls, back(0, 2)), [2, 7])

    def test_a_move_of_which_nothing_came(self):
        self.assertEqual(last(move(0, 5, 6), back(0, 0)), [0])
        self.assertEqual(last(move(0, 5, 0), move(0, 5, 5), back(0, 1)), [1])

    def test_an_earlier_move_that_a_later_one_hides(self):
        self.assertEqual(last(move(0, 5, 0, 1), move(0, 5, 1, 2), back(0, 0)), [0])

    def test_without_it_another_move_can_be_done(self):
        # 6 couldn't go under 5, which was within it; without move 2 it can.
        calls = [move(0, 5, 0, 1), move(0, 6, 0, 2), move(0, 5, 6, 3), move(0, 6, 5, 4)]
        self.assertEqual(ask(*calls, back(0, 2))[3:], [[3, 3], [2, 5, 6]])
        assert_tree(self, calls + [back(0, 2)], 0, {5: (0, 1), 6: (5, 4)})

    def test_it_is_not_turned_round(self):
        calls = [move(0, 5, 0, 1), move(0, 5, 1, 2), move(0, 5, 0, 3), back(0, 1)]
        self.assertEqual(last(*calls), [1])
        assert_tree(self, calls, 0, {5: (0, 3)})

    def test_no_move_of_the_desks_own(self):
        calls = [begin(2), move(0, 5, 0), move(1, 6, 0), back(0, 0)]
        for number in (1, 2, 3, 4, GREATEST):
            with self.subTest(number=number):
                self.assertEqual(last(*calls, back(0, number)), [-3])
        self.assertEqual(last(*calls, back(1, 0)), [-3])
        self.assertEqual(last(*calls, back(1, 2)), [-3])
        self.assertEqual(last(back(0, 0)), [-3])

    def test_of_a_doing_again(self):
        self.assertEqual(last(move(0, 5, 0), back(0, 0), again(0, 0), back(0, 2)), [-3])

    def test_of_what_does_not_hold(self):
        self.assertEqual(last(move(0, 5, 0), back(0, 0), back(0, 0)), [-4])
        self.assertEqual(last(move(0, 5, 0), undo(0), back(0, 0)), [-4])

    def test_many_times(self):
        rows = ask(move(0, 5, 0), back(0, 0), again(0, 0), back(0, 0), again(0, 0), back(0, 0))
        self.assertEqual(rows[1:], [[0, 5]] * 5)


class Again(unittest.TestCase):
    def test_at_its_old_place_among_the_moves(self):
        calls = [move(0, 5, 0, 1), move(0, 6, 5, 2), back(0, 0), move(0, 5, 1, 3), again(0, 0)]
        # Move 0 is done ahead of move 1 once more, so 6 is there again, and move 3 still has the last word on 5.
        self.assertEqual(last(*calls), [0, 6])
        assert_tree(self, calls, 0, {5: (1, 3), 6: (5, 2)})

    def test_no_move_of_the_desks_own(self):
        calls = [begin(2), move(0, 5, 0), move(1, 6, 0), back(0, 0), back(1, 1)]
        for number in (1, 2, 3, 4, 5, GREATEST):
            with self.subTest(number=number):
                self.assertEqual(last(*calls, again(0, number)), [-3])
        self.assertEqual(last(*calls, again(0, 0)), [0, 5])
        self.assertEqual(last(*calls, again(1, 0)), [-3])
        self.assertEqual(last(again(0, 0)), [-3])

    def test_of_a_doing_again(self):
        self.assertEqual(last(move(0, 5, 0), back(0, 0), again(0, 0), again(0, 2)), [-3])

    def test_of_what_holds(self):
        self.assertEqual(last(move(0, 5, 0), again(0, 0)), [-4])
        self.assertEqual(last(move(0, 5, 0), back(0, 0), again(0, 0), again(0, 0)), [-4])
        self.assertEqual(last(move(0, 5, 0), undo(0), redo(0), again(0, 0)), [-4])


class Undo(unittest.TestCase):
    def test_the_last_that_holds(self):
        rows = ask(move(0, 5, 0), move(0, 6, 5), move(0, 7, 6), undo(0), undo(0), undo(0), undo(0))
        self.assertEqual(rows[3:], [[2, 7], [1, 6], [0, 5], [-3]])

    def test_none(self):
        self.assertEqual(last(undo(0)), [-3])
        self.assertEqual(last(begin(2), move(0, 5, 0), undo(1)), [-3])
        self.assertEqual(last(move(0, 5, 0), back(0, 0), undo(0)), [-3])

    def test_a_move_of_which_nothing_came(self):
        self.assertEqual(last(move(0, 5, 0), move(0, 6, 9), undo(0)), [1])

    def test_a_move_that_back_took_ahead_is_passed_over(self):
        rows = ask(move(0, 5, 0), move(0, 6, 0), move(0, 7, 0), back(0, 1), undo(0), undo(0), undo(0))
        self.assertEqual(rows[4:], [[2, 7], [0, 5], [-3]])

    def test_a_move_done_again_is_chosen_by_its_own_stamp(self):
        rows = ask(move(0, 5, 0), move(0, 6, 0), back(0, 0), again(0, 0), undo(0), undo(0), undo(0))
        self.assertEqual(rows[4:], [[1, 6], [0, 5], [-3]])

    def test_again_brings_a_later_one_back_to_it(self):
        rows = ask(move(0, 5, 0), move(0, 6, 0), undo(0), again(0, 1), undo(0), undo(0))
        self.assertEqual(rows[4:], [[1, 6], [0, 5]])


class Redo(unittest.TestCase):
    def test_in_the_turned_order(self):
        rows = ask(move(0, 5, 0), move(0, 6, 5), move(0, 7, 6), undo(0), undo(0), undo(0),
                   redo(0), redo(0), redo(0), redo(0))
        self.assertEqual(rows[6:], [[0, 5], [1, 6], [2, 7], [-3]])

    def test_none(self):
        self.assertEqual(last(redo(0)), [-3])
        self.assertEqual(last(move(0, 5, 0), redo(0)), [-3])
        self.assertEqual(last(begin(2), move(0, 5, 0), undo(0), redo(1)), [-3])

    def test_behind_back(self):
        rows = ask(move(0, 5, 0), move(0, 6, 0), back(0, 0), redo(0), redo(0))
        self.assertEqual(rows[3:], [[0, 5], [-3]])

    def test_the_last_taking_back_and_not_the_last_move(self):
        rows = ask(move(0, 5, 0), move(0, 6, 0), back(0, 1), back(0, 0), redo(0), redo(0), redo(0))
        self.assertEqual(rows[4:], [[0, 5], [1, 6], [-3]])

    def test_a_later_move_shuts_it_off(self):
        self.assertEqual(last(move(0, 5, 0), undo(0), move(0, 6, 0), redo(0)), [-3])

    def test_a_later_move_shuts_it_off_though_taken_back(self):
        rows = ask(move(0, 5, 0), undo(0), move(0, 6, 0), undo(0), redo(0), undo(0), again(0, 2), redo(0))
        self.assertEqual(rows[4:], [[2, 6], [2, 6], [2, 6], [-3]])

    def test_a_later_move_of_which_nothing_came_shuts_it_off(self):
        self.assertEqual(last(move(0, 5, 0), undo(0), move(0, 6, 9), redo(0)), [-3])

    def test_a_refused_move_shuts_nothing_off(self):
        self.assertEqual(last(move(0, 5, 0), undo(0), move(0, 1, 0), redo(0)), [0, 5])

    def test_another_desks_move_shuts_nothing_off(self):
        self.assertEqual(last(begin(2), move(0, 5, 0), undo(0), move(1, 6, 0), redo(0)), [0, 5])

    def test_a_taking_back_behind_the_later_move_opens_it(self):
        # Move 0 was taken back behind move 2 once more: that taking back counts.
        rows = ask(move(0, 5, 0), undo(0), move(0, 6, 0), again(0, 0), back(0, 0), redo(0), redo(0))
        self.assertEqual(rows[5:], [[0, 5], [-3]])

    def test_what_again_did_ahead_is_passed_over(self):
        rows = ask(move(0, 5, 0), move(0, 6, 0), move(0, 7, 0), undo(0), undo(0), undo(0),
                   again(0, 1), redo(0), redo(0), redo(0))
        self.assertEqual(rows[6:], [[1, 6], [0, 5], [2, 7], [-3]])

    def test_doing_again_shuts_nothing_off(self):
        rows = ask(move(0, 5, 0), move(0, 6, 0), back(0, 0), back(0, 1), again(0, 1), redo(0))
        self.assertEqual(rows[5:], [[0, 5]])

    def test_undo_between_redos(self):
        rows = ask(move(0, 5, 0), move(0, 6, 0), undo(0), undo(0), redo(0), undo(0), redo(0), redo(0), undo(0), redo(0))
        self.assertEqual(rows[4:], [[0, 5], [0, 5], [0, 5], [1, 6], [1, 6], [1, 6]])


class ThingsByTheirNumbers(unittest.TestCase):
    def test_several_at_once(self):
        calls = [move(0, 40, 0), move(0, 9, 40), move(0, 63, 40), move(0, 2, 9), move(0, 17, 0)]
        rows = ask(*calls, back(0, 0), again(0, 0))
        self.assertEqual(rows[5:], [[0, 2, 9, 40, 63], [0, 2, 9, 40, 63]])
        rows = ask(*calls, back(0, 4), back(0, 3), undo(0), undo(0), undo(0), redo(0))
        self.assertEqual(rows[5:], [[4, 17], [3, 2], [2, 63], [1, 9], [0, 40], [0, 40]])

    def test_undo_and_redo_tell_several(self):
        calls = [move(0, 8, 0), move(0, 4, 8), move(0, 6, 4), back(0, 0), again(0, 0), back(0, 1), back(0, 2)]
        rows = ask(*calls, undo(0), redo(0), redo(0), redo(0))
        self.assertEqual(rows[7:], [[0, 8], [0, 8], [2], [1, 4, 6]])

    def test_gone_moved_and_labelled_otherwise(self):
        gone = [move(0, 5, 0), back(0, 0)]
        moved = [move(0, 5, 0, 3), move(0, 5, 1, 3), back(0, 1)]
        labelled = [move(0, 5, 0, 0), move(0, 5, 0, MOST_LABEL), back(0, 1)]
        self.assertEqual([last(*calls) for calls in (gone, moved, labelled)], [[0, 5], [1, 5], [1, 5]])

    def test_what_only_goes_along_is_not_elsewhere(self):
        self.assertEqual(last(move(0, 5, 0), move(0, 6, 5), move(0, 5, 1), back(0, 2)), [2, 5])


if __name__ == "__main__":
    unittest.main()
