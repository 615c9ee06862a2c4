"""move: what is refused, and what comes of it."""

import unittest

from tests.helper import GREATEST, MOST_LABEL, again, ask, assert_tree, back, begin, last, move, undo


class Refusals(unittest.TestCase):
    def test_desks(self):
        for desks, desk, told in ((1, 0, [0, 1]), (1, 1, [-2]), (3, 2, [0, 1]), (3, 3, [-2]),
                                  (8, 7, [0, 1]), (8, 8, [-2]), (8, GREATEST, [-2])):
            with self.subTest(desks=desks, desk=desk):
                self.assertEqual(last(begin(desks), move(desk, 5, 0)), told)

    def test_things(self):
        for thing, told in ((0, [-1]), (1, [-1]), (2, [0, 1]), (63, [0, 1]), (64, [-1]), (GREATEST, [-1])):
            with self.subTest(thing=thing):
                self.assertEqual(last(move(0, thing, 0)), told)

    def test_under(self):
        for under, told in ((0, [0, 1]), (1, [0, 1]), (2, [0, 2]), (63, [0, 2]), (64, [-1]), (GREATEST, [-1])):
            with self.subTest(under=under):
                self.assertEqual(last(move(0, 5, under)), told)

    def test_under_the_last_thing(self):
        self.assertEqual(ask(move(0, 63, 0), move(0, 5, 63)), [[0, 1], [1, 1]])

    def test_labels(self):
        for label, told in ((0, [0, 1]), (MOST_LABEL, [0, 1]), (MOST_LABEL + 1, [-1]), (GREATEST, [-1])):
            with self.subTest(label=label):
                self.assertEqual(last(move(0, 5, 0, label)), told)

    def test_no_desk_comes_ahead_of_a_wrong_thing(self):
        for wrong in (move(1, 0, 0), move(1, 5, 64), move(1, 5, 0, MOST_LABEL + 1)):
            with self.subTest(wrong=wrong):
                self.assertEqual(last(wrong), [-2])


class WhatComesOfIt(unittest.TestCase):
    def test_put_under_root_bin_and_things(self):
        calls = [move(0, 5, 0, 1), move(0, 6, 1, 2), move(0, 7, 5, 3), move(0, 8, 6, 4)]
        self.assertEqual(ask(*calls), [[0, 1], [1, 1], [2, 1], [3, 1]])
        assert_tree(self, calls, 0, {5: (0, 1), 6: (1, 2), 7: (5, 3), 8: (6, 4)})

    def test_what_it_is_put_under_is_not_there(self):
        calls = [move(0, 5, 6, 1)]
        self.assertEqual(ask(*calls), [[0, 2]])
        assert_tree(self, calls, 0, {})

    def test_not_there_leaves_a_thing_where_it_was(self):
        calls = [move(0, 5, 0, 1), move(0, 5, 6, 2)]
        self.assertEqual(ask(*calls), [[0, 1], [1, 2]])
        assert_tree(self, calls, 0, {5: (0, 1)})

    def test_under_itself_when_it_is_not_there(self):
        self.assertEqual(last(move(0, 5, 5)), [0, 2])

    def test_under_itself_when_it_is_there(self):
        calls = [move(0, 5, 0, 1), move(0, 5, 5, 2)]
        self.assertEqual(ask(*calls), [[0, 1], [1, 3]])
        assert_tree(self, calls, 0, {5: (0, 1)})

    def test_right_within_and_deep_within(self):
        calls = [move(0, 5, 0, 1), move(0, 6, 5, 2), move(0, 7, 6, 3)]
        for under in (6, 7):
            with self.subTest(under=under):
                self.assertEqual(last(*calls, move(0, 5, under)), [3, 3])
                assert_tree(self, calls + [move(0, 5, under)], 0, {5: (0, 1), 6: (5, 2), 7: (6, 3)})

    def test_within_itself_in_the_bin(self):
        self.assertEqual(last(move(0, 5, 1), move(0, 6, 5), move(0, 5, 6)), [2, 3])

    def test_all_within_goes_along(self):
        calls = [move(0, 5, 0, 1), move(0, 6, 5, 2), move(0, 7, 0, 3), move(0, 5, 7, 4)]
        self.assertEqual(last(*calls), [3, 1])
        self.assertEqual(last(*calls, move(0, 7, 6)), [4, 3])
        assert_tree(self, calls, 0, {5: (7, 4), 6: (5, 2), 7: (0, 3)})

    def test_up_out_of_what_it_was_within(self):
        calls = [move(0, 5, 0), move(0, 6, 5), move(0, 6, 0), move(0, 5, 6)]
        self.assertEqual([row[1] for row in ask(*calls)], [1, 1, 1, 1])

    def test_to_the_bin_and_out_of_it(self):
        calls = [move(0, 5, 0, 1), move(0, 6, 5, 2), move(0, 5, 1, 3)]
        assert_tree(self, calls, 0, {5: (1, 3), 6: (5, 2)})
        out = calls + [move(0, 6, 0, 4)]
        self.assertEqual(last(*out), [3, 1])
        assert_tree(self, out, 0, {5: (1, 3), 6: (0, 4)})

    def test_another_label_where_it_is(self):
        rows = ask(move(0, 5, 0, 1), move(0, 5, 0, 2), undo(0))
        self.assertEqual(rows, [[0, 1], [1, 1], [1, 5]])

    def test_the_very_place_where_it_is(self):
        self.assertEqual(ask(move(0, 5, 0, 1), move(0, 5, 0, 1), undo(0))[1:], [[1, 1], [1]])

    def test_what_holds_alone_counts(self):
        self.assertEqual(ask(move(0, 5, 0), back(0, 0), move(0, 6, 5), again(0, 0), move(0, 7, 5))[2:],
                         [[2, 2], [0, 5, 6], [4, 1]])

    def test_each_desk_sees_what_it_knows(self):
        rows = ask(begin(2), move(0, 5, 0), move(1, 6, 5), move(0, 6, 5), move(1, 5, 1))
        self.assertEqual(rows, [[0], [0, 1], [1, 2], [2, 1], [3, 1]])


if __name__ == "__main__":
    unittest.main()
