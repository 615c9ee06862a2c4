"""How a list of calls is read, how answers are laid out, and begin."""

import contextlib
import io
import unittest

from handsback.desks import answers
from tests.helper import GREATEST, again, ask, back, begin, flat, last, move, redo, reckon, undo


class Layout(unittest.TestCase):
    def test_each_call_with_its_count(self):
        calls = [1, 2, 2, 0, 5, 0, 7, 2, 0, 6, 5, 8, 3, 0, 0, 4, 0, 0, 5, 0, 6, 0, 2, 9, 5, 0, 7]
        told = [1, 0, 2, 0, 1, 2, 1, 1, 3, 0, 5, 6, 3, 0, 5, 6, 2, 1, 6, 2, 1, 6, 1, -2]
        self.assertEqual(answers(calls), told)

    def test_whole_numbers_in_a_list(self):
        told = answers(flat([move(0, 5, 0), undo(0), redo(0), redo(0)]))
        self.assertIs(type(told), list)
        self.assertEqual({type(number) for number in told}, {int})

    def test_the_list_is_as_it_was_and_answered_alike_twice(self):
        calls = flat([begin(2), move(0, 5, 0, 1), move(1, 5, 1, 2), undo(0), redo(0), back(1, 1), again(1, 1)])
        kept = list(calls)
        first = answers(calls)
        self.assertEqual(calls, kept)
        self.assertEqual(answers(calls), first)
        self.assertEqual(calls, kept)

    def test_nothing_is_kept_from_one_list_to_the_next(self):
        answers(flat([begin(8), move(7, 5, 0), move(0, 6, 0)]))
        self.assertEqual(ask(undo(0), move(1, 5, 0), move(0, 5, 6)), [[-3], [-2], [0, 2]])

    def test_what_is_given_back_is_not_kept(self):
        calls = flat([move(0, 5, 0), undo(0)])
        first = answers(calls)
        first.clear()
        self.assertEqual(answers(calls), [2, 0, 1, 2, 0, 5])

    def test_nothing_is_printed(self):
        out, err = io.StringIO(), io.StringIO()
        with contextlib.redirect_stdout(out), contextlib.redirect_stderr(err):
            answers(flat([move(0, 5, 0), undo(0), redo(0), begin(0)]))
        self.assertEqual((out.getvalue(), err.getvalue()), ("", ""))

    def test_two_hundred_calls(self):
        calls = [move(0, 2 + k % 62, k % 2, k) for k in range(100)] + [undo(0), redo(0)] * 50
        told = ask(*calls)
        self.assertEqual(told, reckon(calls))
        self.assertEqual(told[-2:], [[-5], [-3]])

    def test_the_deepest_tree(self):
        calls = [move(0, 2, 0)] + [move(0, thing, thing - 1) for thing in range(3, 64)]
        rows = ask(*calls, move(0, 2, 63), back(0, 0), again(0, 0))
        self.assertEqual([row[1] for row in rows[:62]], [1] * 62)
        self.assertEqual(rows[62:], [[62, 3], [0, *range(2, 64)], [0, *range(2, 64)]])


class Begin(unittest.TestCase):
    def test_edges(self):
        for desks, told in ((0, -1), (1, 0), (2, 0), (8, 0), (9, -1), (GREATEST, -1)):
            with self.subTest(desks=desks):
                self.assertEqual(answers([1, desks]), [1, told])

    def test_one_desk_without_begin(self):
        self.assertEqual(ask(move(0, 5, 0), move(1, 5, 0)), [[0, 1], [-2]])

    def test_as_many_desks_as_asked(self):
        for desks in range(1, 9):
            with self.subTest(desks=desks):
                calls = [begin(desks)] + [move(desk, 5, 0) for desk in range(desks + 1)]
                self.assertEqual(ask(*calls), [[0]] + [[desk, 1] for desk in range(desks)] + [[-2]])

    def test_again_in_the_midst(self):
        rows = ask(begin(3), move(2, 5, 0), move(0, 6, 0), undo(0), begin(2),
                   move(2, 5, 0), redo(0), undo(1), again(0, 1), back(0, 1), move(1, 7, 5), move(0, 8, 6), move(0, 6, 0))
        self.assertEqual(rows[4:], [[0], [-2], [-3], [-3], [-3], [-3], [0, 2], [1, 2], [2, 1]])

    def test_again_gives_room_for_new_deeds(self):
        calls = [move(0, 5, 0)] * 121 + [begin(1), move(0, 5, 0)]
        self.assertEqual(ask(*calls)[119:], [[119, 1], [-5], [0], [0, 1]])

    def test_refused_leaves_all(self):
        for desks in (0, 9, GREATEST):
            with self.subTest(desks=desks):
                rows = ask(begin(2), move(1, 5, 0), begin(desks), move(1, 6, 5), undo(1), move(2, 5, 0))
                self.assertEqual(rows[2:], [[-1], [1, 1], [1, 6], [-2]])

    def test_stamps_begin_anew(self):
        self.assertEqual(last(move(0, 5, 0), undo(0), begin(1), move(0, 5, 0), undo(0), redo(0)), [0, 5])


if __name__ == "__main__":
    unittest.main()
