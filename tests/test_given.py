"""Points 1, 2, 3 and 5: the lists of things and helpers that are handed in, and their refusals."""

import copy
import unittest

from drivermatch.errors import BadClaims, BadHeld, BadNumbers, BadRoom, BadThing
from drivermatch.rest import at_rest, could
from tests.samples import TAKES_ALL, chance_case, lone, refusal, taker, thing

BAD_THING = ((0, 0, 10), ())
BAD_CLAIMS = (((0, 0, 0), 10),)


def rest_refusal(things, helpers):
    return refusal(at_rest, things, helpers)


def could_refusal(things, helpers):
    return refusal(could, things, helpers, [])


class Case(unittest.TestCase):
    def refused(self, things, helpers, kind, at=None):
        for ask in (rest_refusal, could_refusal):
            error = ask(things, helpers)
            self.assertIs(error.__class__, kind)
            if at is not None:
                self.assertEqual(error.at, at)

    def taken(self, things, helpers):
        at_rest(things, helpers)
        could(things, helpers, [])


class Things(Case):
    def bad(self, part, at):
        with self.subTest(part):
            self.refused([(0, part)], [], BadThing, at)

    def test_three_deep_and_three_within_one(self):
        deepest = thing((9, 9, 9))
        middle = thing((0, 9, 0), deepest, deepest, deepest)
        self.taken([(0, thing((0, 0, 0), middle, middle, middle))], [])

    def test_marks_beyond_their_range(self):
        for which in range(3):
            for mark in (-1, 10):
                marks = [0, 0, 0]
                marks[which] = mark
                self.bad((tuple(marks), ()), 0)
                self.bad(thing((0, 0, 0), (tuple(marks), ())), 1)

    def test_other_tuples(self):
        for other in (7, (), (1, 2), (1, 2, 3), ((0, 0, 0),), ((0, 0, 0), (), ()), ((0, 0), ()), ((0, 0, 0, 0), ()),
                      ((0, 0, 0), 0), ((), ()), ((), (0, 0, 0)), ((0, (0,), 0), ()), ((True, 0, 0), ())):
            self.bad(other, 0)
            self.bad(thing((0, 0, 0), other), 1)
            self.bad(thing((0, 0, 0), thing(), other), 2)
            self.bad(thing((0, 0, 0), thing((0, 0, 0), other)), 2)

    def test_a_fourth_within_one(self):
        four = thing((0, 0, 0), thing(), thing(), thing(), thing())
        self.bad(four, 0)
        self.bad(thing((0, 0, 0), thing(), four), 2)

    def test_a_fourth_within_one_is_ahead_of_those_within(self):
        self.bad(thing((0, 0, 0), thing(), BAD_THING, thing(), thing()), 0)

    def test_a_fourth_deep(self):
        three = thing((0, 0, 0), thing((0, 0, 0), thing((0, 0, 0), thing())))
        self.bad(three, 3)
        self.bad(thing((0, 0, 0), thing((0, 0, 0), thing()), thing((0, 0, 0), thing((0, 0, 0), thing()))), 5)

    def test_much_deeper(self):
        deep = thing()
        for _ in range(400):
            deep = thing((0, 0, 0), deep)
        self.bad(deep, 3)

    def test_each_is_ahead_of_those_within_it_and_they_stand_in_turn(self):
        # The numbers: 0 the outer one, 1 with 2 and 3 within it, 4 with 5 and 6 within it.
        for at in range(7):
            marks = [(0, 0, 0)] * 7
            marks[at] = (0, 0, -1)
            first = thing(marks[1], thing(marks[2]), thing(marks[3]))
            second = thing(marks[4], thing(marks[5]), thing(marks[6]))
            self.bad(thing(marks[0], first, second), at)

    def test_the_first_of_several(self):
        self.bad(thing((0, 0, 0), thing((0, 0, 0), BAD_THING), BAD_THING), 2)
        self.bad(((0, 0, 10), (BAD_THING,)), 0)

    def test_each_thing_of_a_list_is_numbered_by_itself(self):
        self.refused([(0, thing((0, 0, 0), thing())), (1, thing((0, 0, 0), thing(), BAD_THING))], [], BadThing, 2)

    def test_the_first_thing_of_a_list(self):
        self.refused([(0, thing((0, 0, 0), BAD_THING)), (1, BAD_THING)], [], BadThing, 1)


class ClaimsAndRooms(Case):
    def test_claims_of_any_helper(self):
        self.refused([], [(0, BAD_CLAIMS, 0)], BadClaims, 0)
        self.refused([], [taker(0), (1, TAKES_ALL + BAD_CLAIMS, 0)], BadClaims, 1)
        self.refused([], [taker(0), (1, TAKES_ALL * 7, 0)], BadClaims, 6)

    def test_rooms_0_to_4(self):
        self.taken([], [(k, TAKES_ALL, k) for k in range(5)])

    def test_other_rooms(self):
        for room in (-1, 5, True):
            with self.subTest(room):
                self.refused([], [(0, TAKES_ALL, room)], BadRoom)
                self.refused([], [taker(0), (1, (), room)], BadRoom)


class Numbers(Case):
    def both(self, numbers, ok):
        with self.subTest(numbers):
            for things, helpers in (([lone(k) for k in numbers], []), ([], [taker(k) for k in numbers])):
                if ok:
                    self.taken(things, helpers)
                else:
                    self.refused(things, helpers, BadNumbers)

    def test_rising_from_0_to_999(self):
        for numbers in ([], [0], [999], [0, 999], [0, 1, 2], [5, 7, 998, 999], list(range(16)), list(range(984, 1000))):
            self.both(numbers, True)

    def test_beyond_their_range(self):
        for numbers in ([-1], [1000], [-1, 0], [999, 1000], [0, 1, 1000], [-2, -1]):
            self.both(numbers, False)

    def test_that_do_not_rise(self):
        for numbers in ([0, 0], [1, 0], [0, 2, 1], [0, 2, 2], [999, 0], [3, 5, 4, 6]):
            self.both(numbers, False)

    def test_true_and_false_are_no_numbers(self):
        for numbers in ([False], [True], [0, True]):
            self.both(numbers, False)

    def test_more_than_sixteen_raise_no_error(self):
        self.both(list(range(20)), True)


class Order(Case):
    """What is handed in first is refused first; of a list the numbers ahead of the rest, in turn."""

    def test_numbers_of_things_ahead_of_all_things(self):
        self.refused([(0, BAD_THING), (0, thing())], [], BadNumbers)

    def test_things_ahead_of_the_numbers_of_helpers(self):
        self.refused([(0, BAD_THING)], [taker(1), taker(0)], BadThing, 0)

    def test_numbers_of_things_ahead_of_helpers(self):
        self.refused([(1, thing()), (0, thing())], [(0, BAD_CLAIMS, 5)], BadNumbers)

    def test_numbers_of_helpers_ahead_of_claims_and_rooms(self):
        self.refused([], [(0, BAD_CLAIMS, 5), (0, (), 0)], BadNumbers)

    def test_claims_ahead_of_the_room_of_one_helper(self):
        self.refused([], [(0, BAD_CLAIMS, 5)], BadClaims, 0)

    def test_one_helper_ahead_of_the_next_one(self):
        self.refused([], [(0, (), 5), (1, BAD_CLAIMS, 0)], BadRoom)
        self.refused([], [(0, BAD_CLAIMS, 0), (1, (), 5)], BadClaims, 0)

    def test_things_and_helpers_ahead_of_the_holding(self):
        held = [((7,), 7)]
        self.assertIs(refusal(could, [(0, BAD_THING)], [], held).__class__, BadThing)
        self.assertIs(refusal(could, [], [(0, BAD_CLAIMS, 0)], held).__class__, BadClaims)
        self.assertIs(refusal(could, [], [(0, (), 5)], held).__class__, BadRoom)
        self.assertIs(refusal(could, [], [(1000, (), 0)], held).__class__, BadNumbers)
        self.assertIs(refusal(could, [], [], held).__class__, BadHeld)


class Untouched(unittest.TestCase):
    """Point 1: nothing handed in is changed or kept, and what is told is the caller's."""

    def test_lists_handed_in_stay_as_they_were(self):
        for seed in range(60):
            things, helpers = chance_case(seed)
            held = at_rest(things, helpers)
            before = copy.deepcopy((things, helpers, held))
            at_rest(things, helpers)
            could(things, helpers, held)
            could(things, helpers, [])
            self.assertEqual((things, helpers, held), before)

    def test_refused_lists_stay_as_they_were(self):
        things, helpers, held = [lone(3), lone(4)], [taker(3)], [((3,), 3), ((3,), 3)]
        before = copy.deepcopy((things, helpers, held))
        refusal(could, things, helpers, held)
        self.assertEqual((things, helpers, held), before)

    def test_a_change_of_a_told_list_changes_no_later_answer(self):
        for seed in range(60):
            things, helpers = chance_case(seed)
            for ask in (lambda: at_rest(things, helpers), lambda: could(things, helpers, [])):
                told = ask()
                before = list(told)
                told.append("more")
                told.reverse()
                self.assertEqual(ask(), before)

    def test_a_change_of_a_list_handed_in_changes_no_other_answer(self):
        things, helpers, held = [lone(0), lone(1)], [taker(0)], [((0,), 0)]
        told, may = at_rest(things, helpers), could(things, helpers, held)
        before = copy.deepcopy((told, may))
        others = copy.deepcopy((things, helpers, held))
        things.clear()
        helpers.clear()
        held.clear()
        self.assertEqual((told, may), before)
        self.assertEqual((at_rest(*others[:2]), could(*others)), before)
        self.assertEqual((at_rest(things, helpers), could(things, helpers, held)), ([], []))

    def test_a_told_list_is_none_of_those_handed_in(self):
        things, helpers = [lone(0)], [taker(0)]
        held = at_rest(things, helpers)
        self.assertIsNot(at_rest(things, helpers), held)
        empty = []
        self.assertIsNot(could([], [], empty), empty)
        self.assertIsNot(at_rest(empty, []), empty)
        self.assertIsNot(at_rest([], empty), empty)
