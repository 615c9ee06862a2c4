"""Many made lists of calls, each answer held against a second reckoning straight from the words."""

import random
import unittest

from tests.helper import ALL_BUT_BEGIN, FIRST_SIX, THAT_SHARE, ask, begin, deeds, odd_call, reckon, same, some_call, tree


class AgainstTheReckoning(unittest.TestCase):
    def check(self, seed, calls):
        with self.subTest(seed=seed):
            self.assertEqual(ask(*calls), reckon(calls))

    def test_each_desk_by_itself(self):
        for seed in range(200):
            chance = random.Random(seed)
            desks = chance.randint(1, 3)
            self.check(seed, [begin(desks)] + [some_call(chance, desks, 40, FIRST_SIX)
                                               for step in range(chance.randint(1, 90))])

    def test_all_calls_at_several_desks(self):
        for seed in range(400):
            chance = random.Random(seed)
            desks = chance.randint(2, 4)
            self.check(seed, [begin(desks)] + [some_call(chance, desks, 30, ALL_BUT_BEGIN)
                                               for step in range(chance.randint(20, 100))])

    def test_deeds_that_go_round_one_by_one(self):
        # Hardly a meeting: the desks know other deeds to the end, and learn them out of order.
        for seed in range(200):
            chance = random.Random(seed)
            calls = [begin(3)] + [some_call(chance, 3, 30, THAT_SHARE) for step in range(90)]
            shown = [call for desk in range(3) for call in (tree(desk), deeds(desk), same(desk, (desk + 1) % 3))]
            self.check(seed, calls + shown)

    def test_odd_calls_among_the_others(self):
        for seed in range(300):
            chance = random.Random(seed)
            self.check(seed, [odd_call(chance) if chance.randrange(3) == 0 else some_call(chance, 2, 20)
                              for step in range(60)])

    def test_past_the_last_deed(self):
        for seed in range(15):
            chance = random.Random(seed)
            self.check(seed, [begin(3)] + [some_call(chance, 3, 120, FIRST_SIX * 3 + ALL_BUT_BEGIN)
                                           for step in range(199)])

    def test_begin_in_the_midst(self):
        for seed in range(60):
            chance = random.Random(seed)
            parts = [[begin(desks)] + [some_call(chance, 4, 15) for step in range(25)]
                     for desks in (chance.randint(1, 8) for part in range(4))]
            self.check(seed, sum(parts, []))


if __name__ == "__main__":
    unittest.main()
