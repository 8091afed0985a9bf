"""Point 8, and points 1 to 3 at the desk's doors: numbers, what is refused, what is told."""

import copy
import unittest

from drivermatch.desk import Desk
from drivermatch.errors import BadClaims, BadRoom, BadThing, NoHelper, NoThing, TooMany
from tests.samples import TAKES_ALL, plug_all, refusal, thing, whole

BAD_THING = ((0, 0, 10), ())
BAD_CLAIMS = (((0, 0, 0), 10),)


def busy_desk():
    """A desk with six things, eight helpers, and letters done and not done."""
    desk = Desk()
    plug_all(desk, thing((1, 1, 1), thing(), thing()), *[thing((k, 0, 0)) for k in range(5)])
    for room in (2, 1, 0, 4, 1, 1, 1, 1):
        desk.come(TAKES_ALL, room)
    for helper in (0, 0, 1, 3):
        desk.answer(helper)
    return desk


class Numbers(unittest.TestCase):
    def test_an_empty_desk(self):
        self.assertEqual(whole(Desk()), ([], [], [], [], [], []))
        self.assertEqual(Desk().settle(), 0)

    def test_things_from_0_on(self):
        desk = Desk()
        self.assertEqual([desk.plug(thing()) for _ in range(6)], list(range(6)))
        self.assertEqual(desk.things(), list(range(6)))

    def test_helpers_from_0_on(self):
        desk = Desk()
        self.assertEqual([desk.come((), 0) for _ in range(8)], list(range(8)))
        self.assertEqual(desk.helpers(), list(range(8)))

    def test_no_number_is_given_twice(self):
        desk = Desk()
        plug_all(desk, thing(), thing(), thing())
        self.assertIsNone(desk.unplug(2))
        self.assertEqual(desk.plug(thing()), 3)
        self.assertIsNone(desk.unplug(0))
        self.assertEqual(desk.things(), [1, 3])
        for _ in range(3):
            desk.come((), 0)
        self.assertIsNone(desk.fall(2))
        self.assertEqual(desk.come((), 0), 3)
        self.assertIsNone(desk.fall(0))
        self.assertEqual(desk.helpers(), [1, 3])

    def test_numbers_beyond_999(self):
        desk = Desk()
        for number in range(1005):
            self.assertEqual(desk.plug(thing((1, 1, 1))), number)
            if number < 1004:
                desk.unplug(number)
        self.assertEqual(desk.come(TAKES_ALL, 1), 0)
        self.assertEqual(desk.settle(), 1)
        self.assertEqual(desk.holds(0), [(1004,)])

    def test_two_desks_know_nothing_of_one_another(self):
        desk, other = Desk(), Desk()
        desk.plug(thing())
        desk.come((), 0)
        self.assertEqual(whole(other), ([], [], [], [], [], []))
        self.assertEqual(other.plug(thing()), 0)


class Refused(unittest.TestCase):
    def bad(self, desk, name, *args):
        """The refusal, which changed nothing."""
        before = whole(desk)
        error = refusal(getattr(desk, name), *args)
        self.assertEqual(whole(desk), before)
        return error

    def test_a_seventh_thing(self):
        desk = busy_desk()
        self.assertIs(self.bad(desk, "plug", thing()).__class__, TooMany)
        desk.unplug(3)
        self.assertEqual(desk.plug(thing()), 6)
        self.assertIs(self.bad(desk, "plug", thing()).__class__, TooMany)

    def test_things_within_others_do_not_count(self):
        desk = Desk()
        inner = thing((0, 0, 0), thing(), thing(), thing())
        for _ in range(6):
            desk.plug(thing((0, 0, 0), inner, inner, inner))
        desk.come(TAKES_ALL, 4)
        desk.settle()
        self.assertEqual(desk.things(), list(range(6)))
        desk.unplug(0)
        self.assertEqual(desk.plug(thing()), 6)

    def test_a_ninth_helper(self):
        desk = busy_desk()
        self.assertIs(self.bad(desk, "come", TAKES_ALL, 4).__class__, TooMany)
        desk.fall(3)
        self.assertEqual(desk.come(TAKES_ALL, 4), 8)
        self.assertIs(self.bad(desk, "come", TAKES_ALL, 4).__class__, TooMany)

    def test_too_many_behind_all(self):
        desk = busy_desk()
        self.assertIs(self.bad(desk, "plug", BAD_THING).__class__, BadThing)
        self.assertIs(self.bad(desk, "come", BAD_CLAIMS, 0).__class__, BadClaims)
        self.assertIs(self.bad(desk, "come", (), 5).__class__, BadRoom)

    def test_claims_ahead_of_the_room(self):
        self.assertIs(self.bad(Desk(), "come", BAD_CLAIMS, 5).__class__, BadClaims)

    def test_other_things(self):
        four = thing((0, 0, 0), thing(), thing(), thing(), thing())
        deep = thing((0, 0, 0), thing((0, 0, 0), thing((0, 0, 0), thing())))
        for part, at in ((BAD_THING, 0), ((), 0), (((0, 0), ()), 0), (four, 0), (deep, 3),
                         (thing((0, 0, 0), thing(), BAD_THING), 2)):
            with self.subTest(part):
                error = self.bad(Desk(), "plug", part)
                self.assertIs(error.__class__, BadThing)
                self.assertEqual(error.at, at)

    def test_other_claims(self):
        for claims, at in ((BAD_CLAIMS, 0), (TAKES_ALL + BAD_CLAIMS, 1), (TAKES_ALL * 7, 6), ((7,), 0)):
            with self.subTest(claims):
                error = self.bad(Desk(), "come", claims, 0)
                self.assertIs(error.__class__, BadClaims)
                self.assertEqual(error.at, at)

    def test_six_claims_and_rooms_0_to_4_can_be(self):
        desk = Desk()
        for room in range(5):
            self.assertEqual(desk.come(TAKES_ALL * 6, room), room)

    def test_other_rooms(self):
        for room in (-1, 5, True):
            with self.subTest(room):
                self.assertIs(self.bad(Desk(), "come", TAKES_ALL, room).__class__, BadRoom)

    def test_what_is_refused_uses_up_no_number(self):
        desk = Desk()
        refusal(desk.plug, BAD_THING)
        refusal(desk.come, BAD_CLAIMS, 0)
        refusal(desk.come, (), 5)
        self.assertEqual((desk.plug(thing()), desk.come((), 0)), (0, 0))

    def test_things_that_there_are_not(self):
        desk = busy_desk()
        desk.unplug(4)
        for number in (4, 6, 999, 1000, -1, True, False):
            with self.subTest(number):
                self.assertIs(self.bad(desk, "unplug", number).__class__, NoThing)
        self.assertIs(self.bad(Desk(), "unplug", 0).__class__, NoThing)

    def test_helpers_that_there_are_not(self):
        desk = busy_desk()
        desk.fall(4)
        for name in ("fall", "answer", "row", "holds"):
            for helper in (4, 8, 999, 1000, -1, True, False):
                with self.subTest(name, helper=helper):
                    self.assertIs(self.bad(desk, name, helper).__class__, NoHelper)
            self.assertIs(self.bad(Desk(), name, 0).__class__, NoHelper)

    def test_a_desk_goes_on_as_if_nothing_had_been_refused(self):
        desk, other = busy_desk(), busy_desk()
        for name, args in (("plug", (thing(),)), ("plug", (BAD_THING,)), ("come", ((), 0)), ("come", (BAD_CLAIMS, 0)),
                           ("unplug", (9,)), ("fall", (9,)), ("answer", (9,)), ("row", (9,)), ("holds", (9,))):
            self.bad(desk, name, *args)
        for one in (desk, other):
            one.unplug(0)
            one.fall(0)
            one.settle()
        self.assertEqual(whole(desk), whole(other))


class Told(unittest.TestCase):
    """Point 1: what is told may be changed by whoever got it, and the same is told again."""

    def test_the_same_is_told_again(self):
        desk = busy_desk()
        self.assertEqual(whole(desk), whole(desk))

    def test_lists_are_told(self):
        desk = busy_desk()
        for told in (desk.things(), desk.helpers(), desk.standing(), desk.row(0), desk.holds(0), desk.told()):
            self.assertIs(told.__class__, list)

    def test_a_change_of_what_is_told_changes_no_later_answer(self):
        for change in (list.clear, list.reverse, lambda told: told.append("more")):
            desk, other = busy_desk(), busy_desk()
            before = copy.deepcopy(whole(desk))
            for ask in (desk.things, desk.helpers, desk.standing, desk.told):
                change(ask())
            for helper in desk.helpers():
                change(desk.row(helper))
                change(desk.holds(helper))
            self.assertEqual(whole(desk), before)
            for one in (desk, other):
                one.plug(thing()) if len(one.things()) < 6 else one.unplug(1)
                one.settle()
            self.assertEqual(whole(desk), whole(other))

    def test_what_was_told_stays_when_the_desk_goes_on(self):
        desk = busy_desk()
        told = whole(desk)
        before = copy.deepcopy(told)
        desk.settle()
        desk.fall(0)
        desk.unplug(0)
        self.assertEqual(told, before)

    def test_what_is_within_what_is_told_cannot_be_changed(self):
        desk = busy_desk()
        for told in (desk.standing(), desk.row(0), desk.holds(0), desk.told()):
            for entry in told:
                self.assertIs(entry.__class__, tuple)
                hash(entry)
