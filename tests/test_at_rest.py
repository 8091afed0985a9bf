"""Points 4 and 5: ids, the order of pairs, and what is had at rest."""

import unittest

from drivermatch.rest import at_rest, could
from tests.model import Model
from tests.samples import ANYTHING, chance_case, lone, taker, thing


class Ids(unittest.TestCase):
    def test_ids_of_every_length(self):
        things = [(7, thing((0, 0, 0), thing(), thing((0, 0, 0), thing(), thing()))), lone(12)]
        helpers = [taker(1), taker(2)]
        self.assertEqual(at_rest(things, helpers), [
            ((7,), 1), ((7, 0), 1), ((7, 1), 1), ((7, 1, 0), 2), ((7, 1, 1), 2), ((12,), 1)])

    def test_which_one_within_another_is_told_from_0(self):
        things = [(4, thing((0, 0, 0), thing((1, 1, 1)), thing((2, 2, 2)), thing((3, 3, 3))))]
        helpers = [(0, (((0, 0, 0), 0), ((3, 3, 3), 0)), 4)]
        self.assertEqual(at_rest(things, helpers), [((4,), 0), ((4, 2), 0)])


class Ahead(unittest.TestCase):
    """could, of nothing held, tells the pairs of outer things by their order."""

    def test_the_shorter_id_whatever_the_fit(self):
        things = [(0, thing((1, 1, 1), thing((2, 2, 2))))]
        helpers = [(0, ((ANYTHING, 0), ((2, 2, 2), 9)), 1), taker(1)]
        self.assertEqual(at_rest(things, helpers), [((0,), 0), ((0, 0), 1)])
        self.assertEqual(could(things, helpers, [((0,), 1)]), [((0,), 0), ((0, 0), 0), ((0, 0), 1)])

    def test_the_shorter_id_whatever_the_helper_and_the_lesser_id(self):
        things = [(0, thing((1, 1, 1), thing((2, 2, 2)))), lone(1, (1, 1, 1))]
        helpers = [(0, (((2, 2, 2), 9),), 1), (1, (((1, 1, 1), 0),), 2)]
        self.assertEqual(could(things, helpers, [((0,), 1)]), [((1,), 1), ((0, 0), 0)])

    def test_of_alike_ones_that_which_fits_more(self):
        things = [lone(0), lone(1, (1, 0, 0))]
        helpers = [(0, ((ANYTHING, 0),), 1), (1, ((ANYTHING, 0), ((1, -1, -1), 0)), 1)]
        self.assertEqual(could(things, helpers, []), [((1,), 1), ((0,), 0), ((1,), 0), ((0,), 1)])
        self.assertEqual(at_rest(things, helpers), [((0,), 0), ((1,), 1)])

    def test_of_alike_ones_that_of_the_lesser_helper(self):
        things = [lone(3), lone(8)]
        helpers = [taker(2, 1), taker(5, 1)]
        self.assertEqual(could(things, helpers, []), [((3,), 2), ((8,), 2), ((3,), 5), ((8,), 5)])
        self.assertEqual(at_rest(things, helpers), [((3,), 2), ((8,), 5)])

    def test_of_alike_ones_that_of_the_lesser_id(self):
        things = [(2, thing((0, 0, 0), thing(), thing(), thing())), (10, thing((0, 0, 0), thing()))]
        helpers = [taker(0, 4), taker(1, 4)]
        held = [((2,), 1), ((10,), 1)]
        self.assertEqual(could(things, helpers, held)[:6], [
            ((2,), 0), ((10,), 0), ((2, 0), 0), ((2, 1), 0), ((2, 2), 0), ((10, 0), 0)])
        self.assertEqual(at_rest(things, helpers), [
            ((2,), 0), ((2, 0), 0), ((2, 1), 0), ((2, 2), 1), ((10,), 0), ((10, 0), 1)])

    def test_numbers_are_compared_as_numbers(self):
        self.assertEqual(could([lone(9), lone(10), lone(100)], [taker(0)], []), [((9,), 0), ((10,), 0), ((100,), 0)])

    def test_nought_fits_less_than_one_mark(self):
        helpers = [taker(0), (1, (((0, -1, -1), 0),), 1)]
        self.assertEqual(could([lone(0)], helpers, []), [((0,), 1), ((0,), 0)])

    def test_only_pairs_that_fit(self):
        helpers = [(0, (((1, -1, -1), 5),), 4), (1, (), 4)]
        self.assertEqual(could([lone(0), lone(1, (1, 5, 5))], helpers, []), [((1,), 0)])


class AtRest(unittest.TestCase):
    def test_no_things_and_no_helpers(self):
        self.assertEqual(at_rest([], []), [])
        self.assertEqual(at_rest([lone(0)], []), [])
        self.assertEqual(at_rest([], [taker(0)]), [])

    def test_numbers_0_and_999(self):
        self.assertEqual(at_rest([lone(0), lone(999)], [taker(0, 1), taker(999, 1)]), [((0,), 0), ((999,), 999)])

    def test_room_0_has_nothing(self):
        self.assertEqual(at_rest([lone(0)], [taker(0, 0)]), [])
        self.assertEqual(at_rest([lone(0)], [taker(0, 0, 9), taker(1, 1)]), [((0,), 1)])

    def test_rooms_1_to_4_are_filled_and_no_more(self):
        for room in range(1, 5):
            told = at_rest([lone(k) for k in range(6)], [taker(3, room)])
            self.assertEqual(told, [((k,), 3) for k in range(room)])

    def test_no_claims_have_nothing(self):
        self.assertEqual(at_rest([lone(0)], [(0, (), 4)]), [])

    def test_nobody_has_what_another_one_has(self):
        self.assertEqual(at_rest([lone(0)], [taker(0), taker(1), taker(2, 4, 1)]), [((0,), 2)])

    def test_within_one_that_nobody_has_nothing_is_had(self):
        things = [(0, thing((1, 1, 1), thing((2, 2, 2), thing((2, 2, 2)))))]
        self.assertEqual(at_rest(things, [(0, (((2, 2, 2), 9),), 4)]), [])

    def test_within_the_one_in_the_middle_that_nobody_has(self):
        things = [(0, thing((2, 2, 2), thing((1, 1, 1), thing((2, 2, 2))), thing((2, 2, 2))))]
        self.assertEqual(at_rest(things, [(0, (((2, 2, 2), 9),), 4)]), [((0,), 0), ((0, 1), 0)])

    def test_another_helper_may_have_what_is_within(self):
        things = [(0, thing((1, 1, 1), thing((2, 2, 2))))]
        helpers = [(0, (((2, 2, 2), 0),), 1), (1, (((1, 1, 1), 0),), 1)]
        self.assertEqual(at_rest(things, helpers), [((0,), 1), ((0, 0), 0)])

    def test_told_rising_and_not_by_the_order_of_pairs(self):
        things = [(0, thing((0, 0, 0), thing())), lone(1, (5, 0, 0))]
        helpers = [(0, ((ANYTHING, 0), ((5, -1, -1), 9)), 4)]
        self.assertEqual(at_rest(things, helpers), [((0,), 0), ((0, 0), 0), ((1,), 0)])

    def test_sixteen_of_each(self):
        inner = thing((0, 0, 0), thing(), thing(), thing())
        things = [(k * 60, thing((0, 0, 0), inner, inner, inner)) for k in range(16)]
        helpers = [taker(k * 60 + 1, 4, k % 10) for k in range(16)]
        told = at_rest(things, helpers)
        self.assertEqual(len(told), 64)
        self.assertEqual(told, sorted(told))
        self.assertEqual(could(things, helpers, told), [])
        self.assertEqual(told[0], ((0,), 541))

    def test_pair_by_pair_as_they_are_ahead(self):
        for seed in range(400):
            things, helpers = chance_case(seed, 4, 4, 4, 3)
            model = Model(things, helpers)
            held = []
            for place, helper in model.pairs:
                had = [p for p, _ in held]
                if (place not in had and (len(place) == 1 or place[:-1] in had)
                        and len(model.of(helper, held)) < model.room[helper]):
                    held.append((place, helper))
            with self.subTest(seed):
                self.assertEqual(at_rest(things, helpers), sorted(held))

    def test_the_same_is_told_again(self):
        things, helpers = chance_case(5)
        self.assertEqual(at_rest(things, helpers), at_rest(things, helpers))
        self.assertIsInstance(at_rest(things, helpers), list)
