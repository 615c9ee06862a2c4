"""How a list of calls is read, how answers are laid out, and begin."""

import contextlib
import io
import unittest

from handsback.desks import answers
from tests.helper import (GREATEST, again, ask, back, begin, deeds, flat, last, meet, move, reckon, redo, same, tell, tree,
                          undo, would)

# Every call at least once, granted and refused, over several desks.
ALL_TWELVE = [begin(3), move(0, 5, 0, 1), move(1, 5, 1, 2), tell(0, 1), meet(1, 2), move(2, 6, 5, 3), undo(0), redo(0),
              back(1, 1), again(1, 1), would(1, 1), tree(0), deeds(2), same(0, 1), meet(0, 2), tree(2), deeds(0), same(0, 2),
              would(0, 1), tell(99, 0), meet(0, 3), tree(3), deeds(3), same(3, 0), begin(9), begin(1), tree(0), deeds(0)]


class Layout(unittest.TestCase):
    def test_each_call_with_its_count(self):
        calls = [1, 2, 2, 0, 5, 0, 7, 2, 0, 6, 5, 8, 3, 0, 0, 4, 0, 0, 5, 0, 6, 0, 2, 9, 5, 0, 7]
        told = [1, 0, 2, 0, 1, 2, 1, 1, 3, 0, 5, 6, 3, 0, 5, 6, 2, 1, 6, 2, 1, 6, 1, -2]
        self.assertEqual(answers(calls), told)

    def test_all_twelve_over_several_desks(self):
        calls = [1, 2,              # begin
                 2, 0, 5, 0, 7,     # move: deed 0, stamp (1, 0)
                 2, 1, 6, 1, 8,     # move: deed 1, stamp (1, 1)
                 8, 0, 1,           # tell deed 0 to desk 1
                 2, 1, 9, 5, 3,     # move: deed 2, stamp (2, 1)
                 10, 1, 11, 1,      # tree, deeds
                 12, 0, 1,          # same
                 9, 0, 1,           # meet
                 12, 0, 1,          # same
                 7, 0, 0,           # would
                 3, 0, 0,           # back: deed 3
                 12, 0, 1,          # same
                 4, 0, 0,           # again: deed 4
                 5, 1, 6, 1,        # undo: deed 5, redo: deed 6
                 12, 1, 0,          # same
                 10, 0, 11, 0]      # tree, deeds
        told = [1, 0, 2, 0, 1, 2, 1, 1, 1, 2, 2, 2, 1,
                7, 2, 5, 1, 7, 9, 2, 3, 7, 3, 0, 1, 1, 1, 2, 1,
                2, 0, 0, 3, 3, 2, 0, 2, 1, 1,
                3, 2, 5, 9, 3, 0, 5, 9, 2, 0, 0, 3, 0, 5, 9,
                2, 2, 9, 2, 2, 9, 2, 0, 1,
                7, 2, 5, 1, 7, 9, 2, 3, 7, 3, 0, 1, 1, 1, 2, 1]
        self.assertEqual(answers(calls), told)

    def test_refusals_of_the_last_six(self):
        self.assertEqual(answers([7, 1, 0, 7, 0, 0, 8, 0, 0, 9, 0, 1, 10, 1, 11, 1, 12, 0, 1, 2, 0, 5, 0, 0, 5, 0, 7, 0, 0]),
                         [1, -2, 1, -3, 1, -2, 1, -2, 1, -2, 1, -2, 1, -2, 2, 0, 1, 2, 0, 5, 1, -4])

    def test_the_list_of_all_twelve_against_the_reckoning(self):
        self.assertEqual({call[0] for call in ALL_TWELVE}, set(range(1, 13)))
        self.assertEqual(ask(*ALL_TWELVE), reckon(ALL_TWELVE))

    def test_whole_numbers_in_a_list(self):
        told = answers(flat(ALL_TWELVE))
        self.assertIs(type(told), list)
        self.assertEqual({type(number) for number in told}, {int})

    def test_the_list_is_as_it_was_and_answered_alike_twice(self):
        calls = flat(ALL_TWELVE)
        kept = list(calls)
        first = answers(calls)
        self.assertEqual(calls, kept)
        self.assertEqual(answers(calls), first)
        self.assertEqual(calls, kept)

    def test_nothing_is_kept_from_one_list_to_the_next(self):
        answers(flat([begin(8), move(7, 5, 0), move(0, 6, 0), meet(0, 7)]))
        self.assertEqual(ask(undo(0), move(1, 5, 0), tree(0), deeds(0), tell(0, 0), meet(0, 0), move(0, 5, 6)),
                         [[-3], [-2], [0], [0], [-2], [0, 0, 0], [0, 2]])

    def test_what_is_given_back_is_not_kept(self):
        calls = flat([move(0, 5, 0), undo(0)])
        first = answers(calls)
        first.clear()
        self.assertEqual(answers(calls), [2, 0, 1, 2, 0, 5])

    def test_nothing_is_printed(self):
        out, err = io.StringIO(), io.StringIO()
        with contextlib.redirect_stdout(out), contextlib.redirect_stderr(err):
            answers(flat(ALL_TWELVE))
        self.assertEqual((out.getvalue(), err.getvalue()), ("", ""))

    def test_two_hundred_calls(self):
        calls = [move(0, 2 + k % 62, k % 2, k) for k in range(100)] + [undo(0), redo(0)] * 50
        told = ask(*calls)
        self.assertEqual(told, reckon(calls))
        self.assertEqual(told[-2:], [[-5], [-3]])

    def test_the_longest_answers(self):
        moves = [move(0, thing, 0) for thing in range(2, 64)]
        rows = ask(begin(2), *moves, meet(0, 1), *[tree(1)] * 68, *[deeds(1)] * 68)
        self.assertEqual([len(row) for row in rows[64:]], [187] * 68 + [125] * 68)

    def test_the_deepest_tree(self):
        calls = [move(0, 2, 0)] + [move(0, thing, thing - 1) for thing in range(3, 64)]
        rows = ask(*calls, move(0, 2, 63), back(0, 0), again(0, 0))
        self.assertEqual([row[1] for row in rows[:62]], [1] * 62)
        self.assertEqual(rows[62:], [[62, 3], [0, *range(2, 64)], [0, *range(2, 64)]])


class Begin(unittest.TestCase):
    def test_edges(self):
        for desks, told in ((0, -1), (1, 0), (2, 0), (8, 0), (9, -1), (GREATEST, -1)):
            with self.subTest(desks=desks):
                self.assertEqual(answers([1, desks]), [1, told])

    def test_one_desk_without_begin(self):
        self.assertEqual(ask(move(0, 5, 0), move(1, 5, 0)), [[0, 1], [-2]])

    def test_as_many_desks_as_asked(self):
        for desks in range(1, 9):
            with self.subTest(desks=desks):
                calls = [begin(desks)] + [move(desk, 5, 0) for desk in range(desks + 1)]
                self.assertEqual(ask(*calls), [[0]] + [[desk, 1] for desk in range(desks)] + [[-2]])

    def test_again_in_the_midst(self):
        rows = ask(begin(3), move(2, 5, 0), move(0, 6, 0), undo(0), begin(2),
                   move(2, 5, 0), redo(0), undo(1), again(0, 1), back(0, 1), move(1, 7, 5), move(0, 8, 6), move(0, 6, 0))
        self.assertEqual(rows[4:], [[0], [-2], [-3], [-3], [-3], [-3], [0, 2], [1, 2], [2, 1]])

    def test_again_gives_room_for_new_deeds(self):
        calls = [move(0, 5, 0)] * 121 + [begin(1), move(0, 5, 0)]
        self.assertEqual(ask(*calls)[119:], [[119, 1], [-5], [0], [0, 1]])

    def test_refused_leaves_all(self):
        for desks in (0, 9, GREATEST):
            with self.subTest(desks=desks):
                rows = ask(begin(2), move(1, 5, 0), begin(desks), move(1, 6, 5), undo(1), move(2, 5, 0))
                self.assertEqual(rows[2:], [[-1], [1, 1], [1, 6], [-2]])

    def test_stamps_begin_anew(self):
        self.assertEqual(last(move(0, 5, 0), undo(0), begin(1), move(0, 5, 0), undo(0), redo(0)), [0, 5])


if __name__ == "__main__":
    unittest.main()
