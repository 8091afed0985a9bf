"""Point 7: the one holding of which nothing could be had, and the way to it."""

import random
import unittest

from drivermatch.rest import at_rest, could
from tests.model import Model
from tests.samples import chance_case, lone, taker, thing


class OneHolding(unittest.TestCase):
    def test_of_what_is_told_nothing_could_be_had(self):
        for seed in range(300):
            things, helpers = chance_case(seed, 5, 5, 4, 3)
            self.assertEqual(could(things, helpers, at_rest(things, helpers)), [], seed)

    def test_of_each_other_holding_something_could_be_had(self):
        for seed in range(300):
            things, helpers = chance_case(seed, 2, 2, 2, 1)
            rest = [held for held in Model(things, helpers).holdings() if could(things, helpers, held) == []]
            self.assertEqual([sorted(held) for held in rest], [at_rest(things, helpers)], seed)


class TheWay(unittest.TestCase):
    def walk(self, things, helpers, held, pick):
        model = Model(things, helpers)
        steps = 0
        may = could(things, helpers, held)
        while may:
            held = model.has(held, pick(may))
            may = could(things, helpers, held)
            steps += 1
            self.assertLess(steps, 5000)
        self.assertEqual(sorted(held), at_rest(things, helpers))

    def test_having_what_is_ahead_or_behind_or_any(self):
        for seed in range(80):
            things, helpers = chance_case(seed, 3, 3, 3, 2)
            rnd = random.Random(seed)
            with self.subTest(seed):
                self.walk(things, helpers, [], lambda may: may[0])
                self.walk(things, helpers, [], lambda may: may[-1])
                self.walk(things, helpers, [], rnd.choice)

    def test_from_any_holding(self):
        for seed in range(60):
            things, helpers = chance_case(seed, 2, 2, 2, 1)
            rnd = random.Random(seed)
            for _, held in zip(range(20), Model(things, helpers).holdings()):
                self.walk(things, helpers, held, rnd.choice)

    def test_what_is_within_is_left_with_it(self):
        things = [(0, thing((0, 0, 0), thing())), lone(1)]
        helpers = [taker(0, 1), taker(1, 2)]
        held = [((0,), 1), ((0, 0), 1)]
        self.assertEqual(Model(things, helpers).has(held, ((0,), 0)), [((0,), 0)])
        self.walk(things, helpers, held, lambda may: may[0])
