"""Points 9 to 12: states, letters, what the desk thinks, and what goes."""

import unittest

from drivermatch.desk import Desk
from drivermatch.rest import at_rest
from tests.samples import ANYTHING, TAKES_ALL, claims_on, plug_all, thing

EAGER = ((ANYTHING, 1),)


def take(*place):
    return ("take", place)


def leave(*place):
    return ("leave", place)


class Case(unittest.TestCase):
    def setUp(self):
        self.desk = Desk()

    def stands(self, *rows):
        self.assertEqual(self.desk.standing(), list(rows))

    def rows(self, *rows):
        """The rows of the helpers that are there, by numbers rising."""
        self.assertEqual([self.desk.row(helper) for helper in self.desk.helpers()], list(rows))

    def last(self, *entries):
        self.assertEqual(self.desk.told()[-len(entries):], list(entries))


class States(Case):
    def test_free_where_nobody_claims(self):
        plug_all(self.desk, thing((1, 1, 1), thing()), thing())
        self.stands(((0,), "free", None), ((1,), "free", None))
        self.desk.come((), 4)
        self.desk.come(claims_on(5), 4)
        self.desk.come(TAKES_ALL, 0)
        self.stands(((0,), "free", None), ((1,), "free", None))
        self.rows([], [], [])

    def test_taking_and_held(self):
        self.desk.plug(thing())
        self.desk.come(TAKES_ALL, 1)
        self.stands(((0,), "taking", 0))
        self.assertEqual((self.desk.row(0), self.desk.holds(0)), ([take(0)], []))
        self.assertEqual(self.desk.answer(0), take(0))
        self.stands(((0,), "held", 0))
        self.assertEqual((self.desk.row(0), self.desk.holds(0)), ([], [(0,)]))

    def test_leaving_and_free(self):
        self.desk.plug(thing())
        self.desk.come(TAKES_ALL, 1)
        self.desk.answer(0)
        self.desk.come(EAGER, 1)
        self.stands(((0,), "leaving", 0))
        self.rows([leave(0)], [])
        self.assertEqual(self.desk.holds(0), [(0,)])
        self.assertEqual(self.desk.answer(0), leave(0))
        self.stands(((0,), "taking", 1))
        self.assertEqual((self.desk.holds(0), self.desk.holds(1)), ([], []))
        self.rows([], [take(0)])

    def test_answers_of_an_empty_row(self):
        self.desk.plug(thing())
        self.desk.come(claims_on(5), 1)
        before = (self.desk.told(), self.desk.standing())
        self.assertIsNone(self.desk.answer(0))
        self.assertEqual((self.desk.told(), self.desk.standing()), before)

    def test_letters_are_done_in_turn(self):
        plug_all(self.desk, thing(), thing(), thing())
        self.desk.come(TAKES_ALL, 4)
        self.rows([take(0), take(1), take(2)])
        self.assertEqual(self.desk.answer(0), take(0))
        self.rows([take(1), take(2)])
        self.stands(((0,), "held", 0), ((1,), "taking", 0), ((2,), "taking", 0))
        self.assertEqual([self.desk.answer(0) for _ in range(3)], [take(1), take(2), None])
        self.assertEqual(self.desk.holds(0), [(0,), (1,), (2,)])

    def test_holds_tells_held_and_leaving_rising(self):
        self.desk.come(TAKES_ALL, 4)
        plug_all(self.desk, thing((5, 5, 5), thing()), thing((6, 6, 6)))
        self.desk.settle()
        self.desk.plug(thing((7, 7, 7)))
        self.desk.come(claims_on(6, worth=1), 4)
        self.stands(((0,), "held", 0), ((0, 0), "held", 0), ((1,), "leaving", 0), ((2,), "taking", 0))
        self.assertEqual(self.desk.holds(0), [(0,), (0, 0), (1,)])
        self.assertEqual(self.desk.holds(1), [])


class Within(Case):
    def test_there_from_when_the_outer_one_is_held(self):
        self.desk.plug(thing((1, 1, 1), thing((5, 5, 5), thing()), thing((6, 6, 6))))
        self.desk.come(claims_on(1), 4)
        self.stands(((0,), "taking", 0))
        self.desk.answer(0)
        self.stands(((0,), "held", 0), ((0, 0), "free", None), ((0, 1), "free", None))
        self.desk.come(claims_on(5, 0), 4)
        self.desk.answer(1)
        self.stands(((0,), "held", 0), ((0, 0), "held", 1), ((0, 0, 0), "taking", 1), ((0, 1), "free", None))

    def test_until_it_is_left(self):
        self.desk.plug(thing((1, 1, 1), thing((5, 5, 5))))
        self.desk.come(TAKES_ALL, 1)
        self.desk.answer(0)
        self.desk.come(claims_on(1), 1)
        self.stands(((0,), "leaving", 0), ((0, 0), "free", None))
        self.desk.answer(0)
        self.stands(((0,), "taking", 1))

    def test_free_at_first_when_it_is_held_again(self):
        self.desk.plug(thing((1, 1, 1), thing((2, 2, 2))))
        self.desk.come(claims_on(1), 1)
        self.desk.come(claims_on(2), 1)
        self.desk.settle()
        self.assertEqual(self.desk.holds(1), [(0, 0)])
        self.desk.fall(0)
        self.stands(((0,), "free", None))
        self.desk.come(claims_on(1), 1)
        self.desk.answer(2)
        self.stands(((0,), "held", 2), ((0, 0), "taking", 1))

    def test_the_outer_one_is_left_behind_what_is_within(self):
        self.desk.plug(thing((0, 0, 0), thing((0, 0, 0), thing())))
        self.desk.come(TAKES_ALL, 4)
        self.desk.settle()
        self.desk.come(EAGER, 4)
        # Of all three only the innermost has nothing within it.
        self.rows([leave(0, 0, 0)], [])
        self.desk.answer(0)
        self.rows([leave(0, 0)], [])
        self.desk.answer(0)
        self.rows([leave(0)], [])
        self.stands(((0,), "leaving", 0), ((0, 0), "free", None))
        self.desk.answer(0)
        self.rows([], [take(0)])
        self.stands(((0,), "taking", 1))

    def test_not_while_something_within_is_taking(self):
        self.desk.plug(thing((0, 0, 0), thing()))
        self.desk.come(TAKES_ALL, 2)
        self.desk.answer(0)
        self.stands(((0,), "held", 0), ((0, 0), "taking", 0))
        self.desk.come(EAGER, 1)
        self.stands(((0,), "held", 0), ((0, 0), "taking", 0))
        self.desk.answer(0)
        self.stands(((0,), "held", 0), ((0, 0), "leaving", 0))
        self.desk.plug(thing((9, 9, 9)))
        self.rows([leave(0, 0)], [])
        self.desk.answer(0)
        self.stands(((0,), "leaving", 0), ((0, 0), "free", None), ((1,), "taking", 0))

    def test_not_while_something_two_deep_is_with_another_helper(self):
        self.desk.plug(thing((1, 1, 1), thing((2, 2, 2), thing((3, 3, 3)))))
        for first in (1, 2, 3):
            self.desk.come(claims_on(first), 1)
        self.desk.settle()
        self.desk.come(claims_on(1, worth=1), 1)
        self.rows([], [], [leave(0, 0, 0)], [])
        for helper, row in ((2, [leave(0, 0, 0)]), (1, [leave(0, 0)]), (0, [leave(0)])):
            self.assertEqual([self.desk.answer(helper)], row)
        self.rows([], [], [], [take(0)])

    def test_within_one_that_is_not_held_by_its_goal_there_is_no_goal(self):
        self.desk.plug(thing((1, 1, 1), thing((2, 2, 2)), thing((2, 2, 2))))
        self.desk.come(claims_on(1), 1)
        self.desk.come(claims_on(2), 1)
        self.desk.settle()
        self.desk.come(claims_on(1, worth=1), 1)
        # (0, 0) is left, for the outer one must go; and (0, 1), free, is not taken in its stead.
        self.stands(((0,), "held", 0), ((0, 0), "leaving", 1), ((0, 1), "free", None))
        self.desk.answer(1)
        self.stands(((0,), "leaving", 0), ((0, 0), "free", None), ((0, 1), "free", None))

    def test_within_one_that_is_leaving_there_is_no_goal(self):
        self.desk.plug(thing((1, 1, 1), thing((2, 2, 2))))
        self.desk.come(claims_on(1), 1)
        self.desk.settle()
        self.desk.come(claims_on(1, worth=1), 1)
        self.desk.fall(1)
        self.desk.come(claims_on(2), 1)
        # Its goal is helper 0 again, but by now it is leaving, and not held.
        self.stands(((0,), "leaving", 0), ((0, 0), "free", None))
        self.rows([leave(0)], [])
        self.desk.answer(0)
        self.stands(((0,), "taking", 0))
        self.desk.settle()
        self.stands(((0,), "held", 0), ((0, 0), "held", 2))

    def test_what_is_within_takes_no_room_until_the_outer_one_is_held(self):
        plug_all(self.desk, thing((1, 1, 1), thing((2, 2, 2))), thing((5, 5, 5)))
        self.desk.come(claims_on(1), 1)
        self.desk.come(((ANYTHING, 0), ((2, -1, -1), 9)), 1)
        self.rows([take(0)], [take(1)])
        self.desk.settle()
        # The shorter id goes ahead, whatever fits more.
        self.stands(((0,), "held", 0), ((0, 0), "free", None), ((1,), "held", 1))


class Thinking(Case):
    def test_a_thing_goes_from_one_helper_to_a_better_one_and_back(self):
        self.desk.plug(thing())
        self.desk.come(TAKES_ALL, 1)
        self.desk.come(EAGER, 1)
        # The letter to take is there; what has been told to take is told to leave once it is held.
        self.rows([take(0)], [])
        self.desk.answer(0)
        self.rows([leave(0)], [])
        self.desk.answer(0)
        self.rows([], [take(0)])
        self.desk.fall(1)
        self.rows([take(0)])
        self.desk.answer(0)
        self.stands(((0,), "held", 0))

    def test_what_is_leaving_is_left_even_if_its_goal_is_its_helper_again(self):
        self.desk.plug(thing())
        self.desk.come(TAKES_ALL, 1)
        self.desk.answer(0)
        self.desk.come(EAGER, 1)
        self.desk.fall(1)
        self.stands(((0,), "leaving", 0))
        self.rows([leave(0)])
        self.desk.answer(0)
        self.rows([take(0)])
        self.stands(((0,), "taking", 0))

    def test_not_more_letters_than_room(self):
        for room in range(5):
            desk = Desk()
            plug_all(desk, *[thing()] * 6)
            desk.come(TAKES_ALL, room)
            self.assertEqual(desk.row(0), [take(k) for k in range(room)])
            for _ in range(room):
                desk.answer(0)
            self.assertEqual(desk.row(0), [])
            self.assertEqual(desk.holds(0), [(k,) for k in range(room)])

    def test_what_is_leaving_still_takes_room(self):
        self.desk.come(((ANYTHING, 0), ((7, -1, -1), 1)), 1)
        self.desk.plug(thing())
        self.desk.answer(0)
        self.desk.plug(thing((7, 0, 0)))
        self.rows([leave(0)])
        self.stands(((0,), "leaving", 0), ((1,), "free", None))
        self.desk.answer(0)
        self.rows([take(1)])
        self.stands(((0,), "free", None), ((1,), "taking", 0))

    def test_what_is_taking_takes_room_though_it_is_no_goal_any_more(self):
        self.desk.come(((ANYTHING, 0), ((7, -1, -1), 1)), 1)
        self.desk.plug(thing())
        self.desk.plug(thing((7, 0, 0)))
        self.rows([take(0)])
        self.assertEqual([self.desk.answer(0) for _ in range(4)], [take(0), leave(0), take(1), None])

    def test_held_within_takes_room_of_what_is_plugged_in(self):
        self.desk.come(TAKES_ALL, 2)
        self.desk.plug(thing((0, 0, 0), thing()))
        self.desk.settle()
        self.desk.plug(thing())
        self.stands(((0,), "held", 0), ((0, 0), "leaving", 0), ((1,), "free", None))
        self.desk.settle()
        self.stands(((0,), "held", 0), ((0, 0), "free", None), ((1,), "held", 0))

    def test_letters_by_ids_rising(self):
        plug_all(self.desk, thing((1, 1, 1), thing((2, 2, 2)), thing((3, 3, 3))), thing((2, 2, 2)), thing((3, 3, 3)))
        self.desk.come(claims_on(1), 1)
        self.desk.settle()
        self.desk.come(claims_on(2, 3), 4)
        self.last(("come", 1, claims_on(2, 3), 4), ("letter", 1, take(0, 0)), ("letter", 1, take(0, 1)),
                  ("letter", 1, take(1)), ("letter", 1, take(2)))

    def test_letters_to_leave_and_to_take_by_ids_rising(self):
        plug_all(self.desk, thing((1, 1, 1)), thing((2, 2, 2)), thing((1, 1, 1)))
        self.desk.come(claims_on(1), 4)
        self.desk.settle()
        self.desk.come(EAGER, 4)
        self.last(("come", 1, EAGER, 4), ("letter", 0, leave(0)), ("letter", 1, take(1)), ("letter", 0, leave(2)))
        self.rows([leave(0), leave(2)], [take(1)])

    def test_room_that_a_letter_of_the_same_thought_took(self):
        self.desk.come(((ANYTHING, 0), ((7, -1, -1), 1)), 2)
        self.desk.come(claims_on(7, worth=2), 2)
        plug_all(self.desk, thing(), thing((7, 0, 0)), thing((7, 1, 1)))
        self.desk.settle()
        self.desk.fall(1)
        # Two with room for two: one is leaving, one is taking, and the third has to wait.
        self.stands(((0,), "leaving", 0), ((1,), "taking", 0), ((2,), "free", None))
        self.rows([leave(0), take(1)])
        self.desk.answer(0)
        self.rows([take(1), take(2)])

    def test_a_letter_only_once(self):
        self.desk.plug(thing())
        self.desk.come(TAKES_ALL, 4)
        plug_all(self.desk, thing((9, 9, 9)), thing((9, 9, 9)))
        self.desk.come((), 0)
        self.desk.answer(1)
        self.rows([take(0), take(1), take(2)], [])


class Going(Case):
    def test_letters_of_what_is_unplugged_go_from_all_rows(self):
        plug_all(self.desk, thing((1, 1, 1), thing((2, 2, 2)), thing((3, 3, 3))), thing((2, 2, 2)), thing((3, 3, 3)))
        for first in (1, 2, 3):
            self.desk.come(claims_on(first), 4)
        self.desk.answer(0)
        self.rows([], [take(1), take(0, 0)], [take(2), take(0, 1)])
        self.desk.unplug(0)
        self.rows([], [take(1)], [take(2)])
        self.stands(((1,), "taking", 1), ((2,), "taking", 2))

    def test_nobody_has_what_is_unplugged(self):
        plug_all(self.desk, thing((0, 0, 0), thing()), thing())
        self.desk.come(TAKES_ALL, 2)
        self.desk.settle()
        self.assertEqual(self.desk.holds(0), [(0,), (1,)])
        self.desk.unplug(0)
        self.assertEqual(self.desk.holds(0), [(1,)])
        self.desk.unplug(1)
        self.assertEqual((self.desk.holds(0), self.desk.standing()), ([], []))

    def test_room_that_is_left_by_what_is_unplugged_is_filled(self):
        plug_all(self.desk, thing(), thing())
        self.desk.come(TAKES_ALL, 1)
        self.desk.unplug(0)
        self.rows([take(1)])
        self.last(("unplug", 0), ("letter", 0, take(1)))

    def test_letters_to_leave_go_with_the_thing(self):
        self.desk.plug(thing())
        self.desk.come(TAKES_ALL, 1)
        self.desk.answer(0)
        self.desk.come(EAGER, 1)
        self.rows([leave(0)], [])
        self.desk.unplug(0)
        self.rows([], [])
        self.assertIsNone(self.desk.answer(0))

    def test_all_with_a_helper_that_falls_are_free(self):
        self.desk.come(TAKES_ALL, 4)
        plug_all(self.desk, thing(), thing((1, 1, 1)), thing((2, 2, 2)))
        self.desk.answer(0)
        self.desk.answer(0)
        self.desk.come(claims_on(1, worth=1), 0)
        self.desk.come(claims_on(1, worth=2), 1)
        self.stands(((0,), "held", 0), ((1,), "leaving", 0), ((2,), "taking", 0))
        self.desk.fall(0)
        self.stands(((0,), "free", None), ((1,), "taking", 2), ((2,), "free", None))
        self.rows([], [take(1)])
        self.last(("fall", 0), ("letter", 2, take(1)))

    def test_what_is_within_what_a_fall_frees_goes(self):
        self.desk.plug(thing((1, 1, 1), thing((2, 2, 2), thing((3, 3, 3))), thing((3, 3, 3))))
        for first in (1, 2, 3):
            self.desk.come(claims_on(first), 4)
        for helper in (0, 1):
            self.desk.answer(helper)
        self.rows([], [], [take(0, 1), take(0, 0, 0)])
        self.desk.answer(2)
        self.desk.fall(0)
        self.stands(((0,), "free", None))
        self.rows([], [])
        self.assertEqual((self.desk.holds(1), self.desk.holds(2)), ([], []))

    def test_within_only_what_it_had(self):
        self.desk.plug(thing((1, 1, 1), thing((2, 2, 2), thing((3, 3, 3))), thing((3, 3, 3))))
        for first in (1, 2, 3):
            self.desk.come(claims_on(first), 4)
        self.desk.settle()
        self.desk.fall(1)
        self.stands(((0,), "held", 0), ((0, 0), "free", None), ((0, 1), "held", 2))

    def test_a_helper_falls_that_has_the_outer_and_the_inner_ones(self):
        self.desk.plug(thing((0, 0, 0), thing((0, 0, 0), thing()), thing()))
        self.desk.come(TAKES_ALL, 4)
        self.desk.come(EAGER, 0)
        self.desk.settle()
        self.assertEqual(len(self.desk.holds(0)), 4)
        self.desk.fall(0)
        self.stands(((0,), "free", None))
        self.assertEqual(self.desk.helpers(), [1])

    def test_taking_is_free_by_a_fall(self):
        self.desk.plug(thing((0, 0, 0), thing()))
        self.desk.come(EAGER, 1)
        self.desk.come(TAKES_ALL, 1)
        self.stands(((0,), "taking", 0))
        self.desk.fall(0)
        self.stands(((0,), "taking", 1))
        self.rows([take(0)])


class Settle(Case):
    def test_how_many_were_done(self):
        self.assertEqual(self.desk.settle(), 0)
        plug_all(self.desk, thing((0, 0, 0), thing()), thing())
        self.desk.come(TAKES_ALL, 4)
        self.assertEqual(self.desk.settle(), 3)
        self.assertEqual(self.desk.settle(), 0)
        self.desk.come(EAGER, 2)
        # (0, 0), (0,) and (1,) are left; (0,) and (1,) are taken, and (0, 0) by the first one again.
        self.assertEqual(self.desk.settle(), 6)

    def test_by_numbers_rising_one_each_and_again(self):
        plug_all(self.desk, *[thing((k // 2, 0, 0)) for k in range(6)])
        for first in (2, 0, 1):
            self.desk.come(claims_on(first), 4)
        many = len(self.desk.told())
        self.assertEqual(self.desk.settle(), 6)
        self.assertEqual(self.desk.told()[many:], [
            ("done", 0, take(4)), ("done", 1, take(0)), ("done", 2, take(2)),
            ("done", 0, take(5)), ("done", 1, take(1)), ("done", 2, take(3))])

    def test_a_letter_that_comes_in_a_round_is_done_in_it(self):
        self.desk.plug(thing((1, 1, 1), thing((2, 2, 2))))
        self.desk.plug(thing((1, 1, 1)))
        self.desk.come(claims_on(1), 4)
        self.desk.come(claims_on(2), 4)
        many = len(self.desk.told())
        self.assertEqual(self.desk.settle(), 3)
        self.assertEqual(self.desk.told()[many:], [
            ("done", 0, take(0)), ("letter", 1, take(0, 0)), ("done", 1, take(0, 0)), ("done", 0, take(1))])

    def test_a_letter_to_one_whose_turn_is_over_is_done_in_the_next_round(self):
        self.desk.plug(thing((1, 1, 1), thing((2, 2, 2))))
        self.desk.plug(thing((1, 1, 1)))
        self.desk.come(claims_on(2), 4)
        self.desk.come(claims_on(1), 4)
        many = len(self.desk.told())
        self.assertEqual(self.desk.settle(), 3)
        self.assertEqual(self.desk.told()[many:], [
            ("done", 1, take(0)), ("letter", 0, take(0, 0)), ("done", 0, take(0, 0)), ("done", 1, take(1))])

    def test_what_is_held_is_what_at_rest_tells(self):
        one = thing((1, 0, 0), thing((2, 0, 0), thing((1, 0, 0))), thing((1, 1, 1)))
        two = thing((2, 2, 2), thing((1, 0, 0)))
        plug_all(self.desk, one, thing(), two)
        self.desk.unplug(1)
        helpers = [(1, (((1, -1, -1), 2), (ANYTHING, 0)), 2), (2, claims_on(2), 1), (3, TAKES_ALL, 3)]
        self.desk.come(TAKES_ALL, 4)
        for _, claims, room in helpers:
            self.desk.come(claims, room)
            self.desk.answer(0)
        self.desk.fall(0)
        self.desk.settle()
        held = at_rest([(0, one), (2, two)], helpers)
        self.assertEqual([(place, helper) for place, state, helper in self.desk.standing() if state == "held"], held)
        self.assertEqual({state for _, state, _ in self.desk.standing()} - {"held", "free"}, set())
        self.assertEqual(len(held), 6)


class Log(Case):
    def test_all_that_happened_in_turn(self):
        hub = thing((1, 1, 1), thing((2, 2, 2)))
        self.desk.plug(hub)
        self.desk.come(claims_on(1, 2), 2)
        self.desk.answer(0)
        self.desk.answer(0)
        self.desk.answer(0)
        self.desk.come(claims_on(2, worth=4), 1)
        self.desk.answer(0)
        self.desk.fall(0)
        self.desk.unplug(0)
        self.assertEqual(self.desk.told(), [
            ("plug", 0, hub),
            ("come", 0, claims_on(1, 2), 2), ("letter", 0, take(0)),
            ("done", 0, take(0)), ("letter", 0, take(0, 0)),
            ("done", 0, take(0, 0)),
            ("come", 1, claims_on(2, worth=4), 1), ("letter", 0, leave(0, 0)),
            ("done", 0, leave(0, 0)), ("letter", 1, take(0, 0)),
            ("fall", 0),
            ("unplug", 0)])
