"""The 120th deed, which of several refusals is told, and that all is as it was behind one."""

import unittest

from tests.helper import (GREATEST, MOST_LABEL, again, ask, back, begin, deeds, last, meet, move, redo, same, tell, tree,
                          undo, would)


def filled(deeds):
    """Behind begin just so many deeds by desk 0: move 0 holds, move 1 is taken back, and redo would do it again."""
    spare = [move(0, 7, 0, label) for label in range(deeds - 3)]
    return [begin(2)] + spare + [move(0, 5, 0), move(0, 6, 0), undo(0)]


class TooManyDeeds(unittest.TestCase):
    def test_the_120th_is_granted_and_the_121st_refused(self):
        calls = (move(0, 8, 0), move(1, 8, 0), back(0, 116), again(0, 117), undo(0), redo(0))
        granted = ([119, 1], [119, 1], [116, 5], [117, 6], [116, 5], [117, 6])
        for call, told in zip(calls, granted):
            with self.subTest(call=call):
                self.assertEqual(last(*filled(119), call), told)
        ahead = filled(120)
        for call in (move(0, 8, 0), move(1, 8, 0), back(0, 117), again(0, 118), undo(0), redo(0)):
            with self.subTest(call=call):
                self.assertEqual(ask(*ahead, call)[-2:], [[118, 6], [-5]])

    def test_all_desks_deeds_count_together(self):
        calls = [begin(8)] + [move(k % 8, 5, 0) for k in range(121)]
        self.assertEqual(ask(*calls)[-2:], [[119, 1], [-5]])

    def test_every_sort_of_deed_counts(self):
        calls = [move(0, 5, 0)] + [undo(0), redo(0), back(0, 0), again(0, 0)] * 30
        rows = ask(*calls)
        self.assertEqual(rows[119], [0, 5])
        self.assertEqual(rows[120], [-5])

    def test_refused_calls_do_not_count(self):
        calls = [move(0, 1, 0), back(0, 0), undo(0), redo(0)] * 15 + [move(0, 5, 0)] * 121
        self.assertEqual(ask(*calls)[-2:], [[119, 1], [-5]])


class GrantedWhenTheHouseIsFull(unittest.TestCase):
    def test_the_six_calls_that_do_no_deed(self):
        rows = ask(*filled(120), undo(0), would(0, 117), tell(119, 1), meet(1, 0), tree(1), deeds(1), same(0, 1))
        numbers = [part for number in range(118) for part in (number, 1)]
        self.assertEqual(rows[121:], [[-5], [1, 5], [1], [120, 119, 0], [2, 5, 1, 0, 7, 1, 116],
                                      [119] + numbers + [118, 0], [1, 1]])

    def test_before_and_behind_a_refused_deed_they_tell_the_same(self):
        shown = [would(0, 117), tree(0), deeds(0), same(0, 1), tell(118, 0)]
        rows = ask(*filled(120), *shown, move(0, 9, 0), undo(0), redo(0), move(1, 9, 0), *shown)
        self.assertEqual(rows[-9:-5], [[-5]] * 4)
        self.assertEqual(rows[-14:-9], rows[-5:])

    def test_each_is_refused_as_ever(self):
        for call, told in ((would(2, 117), -2), (would(1, 117), -3), (would(0, 119), -3), (would(0, 120), -3),
                           (would(0, 118), -4), (tell(120, 0), -2), (tell(119, 2), -2), (meet(0, 2), -2), (meet(2, 0), -2),
                           (tree(2), -2), (deeds(2), -2), (same(0, 2), -2), (same(2, 0), -2)):
            with self.subTest(call=call):
                self.assertEqual(last(*filled(120), call), [told])


class TheOneToldFirst(unittest.TestCase):
    def test_where_the_house_is_full(self):
        ahead = filled(120)
        for call, told in ((move(2, 8, 0), -2), (move(2, 1, 64, MOST_LABEL + 1), -2), (move(0, 1, 0), -1),
                           (move(0, 8, 64), -1), (move(0, 8, 0, MOST_LABEL + 1), -1),
                           (back(2, 117), -2), (back(1, 117), -3), (back(0, 119), -3), (back(0, 118), -4),
                           (again(2, 118), -2), (again(1, 118), -3), (again(0, 119), -3), (again(0, 117), -4),
                           (back(0, 120), -3), (again(0, 120), -3),
                           (undo(2), -2), (undo(1), -3), (redo(2), -2), (redo(1), -3)):
            with self.subTest(call=call):
                self.assertEqual(last(*ahead, call), [told])

    def test_no_desk_ahead_of_no_move(self):
        for call in (back(1, 0), again(1, 0), back(1, GREATEST), again(GREATEST, GREATEST), undo(1), redo(1)):
            with self.subTest(call=call):
                self.assertEqual(last(call), [-2])

    def test_no_move_of_its_own_ahead_of_whether_it_holds(self):
        ahead = [begin(2), move(0, 5, 0), move(0, 6, 0), back(0, 0)]
        self.assertEqual(ask(*ahead, back(1, 0), again(1, 1))[-2:], [[-3], [-3]])


class AsItWas(unittest.TestCase):
    def test_refused_calls_between_the_others_change_no_answer(self):
        calls = [begin(2), move(0, 5, 0, 1), move(1, 6, 0, 2), move(0, 6, 5, 3), tell(0, 1), move(0, 7, 6, 4), back(0, 2),
                 move(1, 5, 6, 5), tree(1), undo(0), redo(0), meet(0, 1), redo(0), again(0, 2), deeds(0), undo(1), redo(1),
                 would(1, 1), undo(0), same(0, 1), move(0, 8, 7), meet(1, 0), deeds(1), tree(0), same(0, 1)]
        refused = [begin(0), begin(9), begin(GREATEST), move(8, 5, 0), move(0, 0, 0), move(0, 1, 0), move(0, 64, 0),
                   move(0, 5, 64), move(0, 5, 0, MOST_LABEL + 1), back(8, 0), again(8, 0), undo(8), redo(8),
                   back(0, 1), again(0, 1), back(1, 0), again(1, 0), back(0, 99), again(0, 99),
                   back(0, GREATEST), again(1, GREATEST), back(0, 4), again(0, 4), undo(5), redo(5),
                   would(2, 0), would(GREATEST, 0), would(0, 1), would(1, 0), would(0, 99), would(0, 4), would(1, GREATEST),
                   tell(99, 0), tell(GREATEST, 1), tell(0, 2), tell(0, GREATEST), tell(99, 2), meet(0, 2), meet(2, 0),
                   meet(1, GREATEST), meet(GREATEST, 1), tree(2), tree(GREATEST), deeds(2), deeds(GREATEST),
                   same(0, 2), same(2, 0), same(GREATEST, GREATEST)]
        told = ask(*calls)
        for place in range(1, len(calls) + 1):
            for call in refused:
                with self.subTest(place=place, call=call):
                    rows = ask(*calls[:place], call, *calls[place:])
                    self.assertLess(rows[place][0], 0)
                    self.assertEqual(len(rows[place]), 1)
                    self.assertEqual(rows[:place] + rows[place + 1:], told)

    def test_back_and_again_refused_by_whether_it_holds(self):
        self.assertEqual(ask(move(0, 5, 0), again(0, 0), undo(0), back(0, 0), redo(0), again(0, 0), move(0, 6, 5)),
                         [[0, 1], [-4], [0, 5], [-4], [0, 5], [-4], [3, 1]])

    def test_undo_and_redo_refused_for_want_of_a_move(self):
        self.assertEqual(ask(undo(0), redo(0), move(0, 5, 0), redo(0), undo(0), undo(0), redo(0), move(0, 6, 5)),
                         [[-3], [-3], [0, 1], [-3], [0, 5], [-3], [0, 5], [3, 1]])

    def test_the_121st_deed_changes_nothing(self):
        ahead = filled(120)
        refused = [undo(0), redo(0), back(0, 117), again(0, 118), move(0, 9, 0), move(1, 9, 0)]
        rows = ask(*ahead, *refused, *refused, back(0, 118), again(0, 117), undo(1))
        self.assertEqual(rows[-15:], [[-5]] * 12 + [[-4], [-4], [-3]])


if __name__ == "__main__":
    unittest.main()
