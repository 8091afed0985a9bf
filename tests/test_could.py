"""Point 6: what could be had of a holding, and the holdings that cannot be."""

import itertools
import random
import unittest

from drivermatch.errors import BadHeld
from drivermatch.rest import could
from tests.model import Model
from tests.samples import ANYTHING, chance_case, lone, refusal, taker, thing


class Could(unittest.TestCase):
    def test_nothing_of_nothing(self):
        self.assertEqual(could([], [], []), [])
        self.assertEqual(could([lone(0)], [], []), [])
        self.assertEqual(could([], [taker(0)], []), [])

    def test_what_is_had_is_not_told(self):
        self.assertEqual(could([lone(0)], [taker(0)], [((0,), 0)]), [])

    def test_what_is_within_one_that_is_not_had_is_not_told(self):
        things = [(0, thing((0, 0, 0), thing((0, 0, 0), thing())))]
        self.assertEqual(could(things, [taker(0)], []), [((0,), 0)])
        self.assertEqual(could(things, [taker(0)], [((0,), 0)]), [((0, 0), 0)])
        self.assertEqual(could(things, [taker(0)], [((0,), 0), ((0, 0), 0)]), [((0, 0, 0), 0)])

    def test_whoever_has_the_outer_one(self):
        things = [(0, thing((1, 0, 0), thing((2, 0, 0))))]
        helpers = [(0, (((2, -1, -1), 0),), 1), (1, (((1, -1, -1), 0),), 1)]
        self.assertEqual(could(things, helpers, [((0,), 1)]), [((0, 0), 0)])

    def test_from_one_whose_pair_is_behind(self):
        helpers = [taker(0), taker(1)]
        self.assertEqual(could([lone(0)], helpers, [((0,), 1)]), [((0,), 0)])
        self.assertEqual(could([lone(0)], helpers, [((0,), 0)]), [])

    def test_from_one_who_fits_less(self):
        helpers = [taker(0), taker(1, 4, 1)]
        self.assertEqual(could([lone(0)], helpers, [((0,), 0)]), [((0,), 1)])
        self.assertEqual(could([lone(0)], helpers, [((0,), 1)]), [])

    def test_no_room_and_none_of_its_pairs_behind(self):
        self.assertEqual(could([lone(0), lone(1)], [taker(0, 1)], [((0,), 0)]), [])

    def test_no_room_but_one_of_its_pairs_behind(self):
        self.assertEqual(could([lone(0), lone(1)], [taker(0, 1)], [((1,), 0)]), [((0,), 0)])
        things = [lone(0), lone(1), lone(2)]
        self.assertEqual(could(things, [taker(0, 2)], [((0,), 0), ((2,), 0)]), [((1,), 0)])
        self.assertEqual(could(things, [taker(0, 2)], [((2,), 0), ((0,), 0)]), [((1,), 0)])

    def test_no_room_for_what_is_within_but_for_what_is_plugged_in(self):
        things = [(0, thing((0, 0, 0), thing((0, 0, 0)))), lone(1)]
        self.assertEqual(could(things, [taker(0, 2)], [((0,), 0), ((0, 0), 0)]), [((1,), 0)])
        self.assertEqual(could(things, [taker(0, 2)], [((0,), 0), ((1,), 0)]), [])

    def test_room_0(self):
        self.assertEqual(could([lone(0)], [taker(0, 0)], []), [])

    def test_room_4(self):
        things = [lone(k) for k in range(6)]
        self.assertEqual(could(things, [taker(0, 4)], [((k,), 0) for k in range(3)]), [((3,), 0), ((4,), 0), ((5,), 0)])
        self.assertEqual(could(things, [taker(0, 4)], [((k,), 0) for k in range(4)]), [])

    def test_those_ahead_first(self):
        things = [(0, thing((5, 5, 5), thing((5, 5, 5)))), lone(1, (5, 5, 5))]
        helpers = [taker(3), (4, ((ANYTHING, 1),), 4)]
        self.assertEqual(could(things, helpers, [((0,), 3)]), [
            ((0,), 4), ((1,), 4), ((1,), 3), ((0, 0), 4), ((0, 0), 3)])

    def test_a_holding_in_any_order_tells_the_same(self):
        things = [(0, thing((0, 0, 0), thing((0, 0, 0), thing()), thing())), lone(1)]
        helpers = [taker(0, 2), taker(1, 3)]
        held = [((0,), 1), ((0, 0), 0), ((0, 0, 0), 1), ((1,), 1)]
        told = {tuple(could(things, helpers, list(row))) for row in itertools.permutations(held)}
        self.assertEqual(len(told), 1)

    def test_of_all_holdings_of_small_cases(self):
        for seed in range(120):
            things, helpers = chance_case(seed, 2, 2, 2, 1)
            model = Model(things, helpers)
            for held in itertools.islice(model.holdings(), 300):
                with self.subTest(seed=seed, held=held):
                    self.assertEqual(could(things, helpers, held), model.could(held))

    def test_of_holdings_of_larger_cases(self):
        for seed in range(150):
            things, helpers = chance_case(seed, 4, 4, 4, 3)
            model = Model(things, helpers)
            rnd = random.Random(seed)
            held = []
            for place in sorted(model.marks, key=len):
                helpers_of = [helper for helper in model.claims if (place, helper) in model.pairs
                              and len(model.of(helper, held)) < model.room[helper]]
                if helpers_of and rnd.randrange(3) and (len(place) == 1 or place[:-1] in [p for p, _ in held]):
                    held.append((place, rnd.choice(helpers_of)))
            rnd.shuffle(held)
            with self.subTest(seed):
                self.assertEqual(could(things, helpers, held), model.could(held))


class Refused(unittest.TestCase):
    THINGS = [(0, thing((0, 0, 0), thing((0, 0, 0), thing()), thing())), lone(1), lone(2, (7, 7, 7))]
    HELPERS = [(0, (((0, -1, -1), 0),), 2), (1, ((ANYTHING, 0),), 4), (2, ((ANYTHING, 0),), 0)]

    def bad(self, held, at):
        with self.subTest(held):
            error = refusal(could, self.THINGS, self.HELPERS, held)
            self.assertIs(error.__class__, BadHeld)
            self.assertEqual(error.at, at)

    def test_one_that_can_be(self):
        held = [((0,), 0), ((0, 0), 1), ((0, 0, 0), 1), ((0, 1), 0), ((1,), 1), ((2,), 1)]
        could(self.THINGS, self.HELPERS, held)

    def test_an_id_that_there_is_not(self):
        for place in ((3,), (-1,), (), (0, 2), (0, -1), (1, 0), (0, 0, 1), (0, 0, 0, 0), (0, 1, 0), (999,), (1000,)):
            self.bad([(place, 1)], 0)
            self.bad([((1,), 1), ((0,), 1), (place, 1)], 2)

    def test_an_id_that_stands_ahead(self):
        self.bad([((1,), 1), ((1,), 1)], 1)
        self.bad([((1,), 1), ((0,), 0), ((1,), 0)], 2)

    def test_a_helper_that_there_is_not(self):
        for helper in (-1, 3, 999, 1000):
            self.bad([((0,), helper)], 0)
            self.bad([((0,), 0), ((1,), helper)], 1)

    def test_claims_that_do_not_fit(self):
        self.bad([((2,), 0)], 0)
        self.bad([((0,), 0), ((1,), 0), ((2,), 0)], 2)

    def test_a_helper_that_holds_as_many_as_its_room_ahead(self):
        self.bad([((0,), 2)], 0)
        self.bad([((0,), 0), ((1,), 0), ((0, 0), 0)], 2)
        self.bad([((0,), 0), ((1,), 1), ((0, 1), 0), ((0, 0), 0)], 3)

    def test_within_one_that_is_not_had_at_all(self):
        self.bad([((0, 0), 1)], 0)
        self.bad([((0,), 1), ((0, 0, 0), 1)], 1)
        self.bad([((1,), 1), ((0, 0, 0), 1), ((0, 0), 1)], 2)

    def test_within_one_that_is_had_behind_can_be(self):
        could(self.THINGS, self.HELPERS, [((0, 0, 0), 1), ((0, 0), 1), ((0,), 1)])

    def test_within_one_that_is_had_behind_by_a_pair_that_cannot_be(self):
        self.bad([((0, 0), 1), ((0,), 9)], 1)
        self.bad([((0, 0), 1), ((1,), 1), ((0,), 2)], 2)

    def test_the_first_of_several(self):
        self.bad([((2,), 0), ((9,), 0), ((0, 0), 0)], 0)
        self.bad([((0, 0), 0), ((9,), 0)], 0)
        self.bad([((1,), 0), ((1,), 0), ((2,), 0)], 1)

    def test_true_and_false_are_no_numbers(self):
        self.bad([((False,), 0)], 0)
        self.bad([((0,), True)], 0)
