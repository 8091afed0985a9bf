"""Points 8 to 13: desks that go through much by chance, beside the model, and what is so of each of them."""

import random
import unittest

from drivermatch.desk import Desk
from drivermatch.errors import MatchError
from drivermatch.judging import judge
from drivermatch.rest import at_rest, could
from tests.desk_model import DeskModel
from tests.samples import chance_claim, chance_thing

STATES = ("free", "taking", "held", "leaving")


class Pair:
    """A desk and the model, which are asked the same."""

    def __init__(self, case, seed):
        self.case, self.rnd = case, random.Random(seed)
        self.desk, self.model = Desk(), DeskModel()
        self.wild = self.rnd.choice((0.0, 0.1))
        self.weights = self.rnd.choice(([3, 1, 3, 1, 12, 1], [3, 2, 3, 2, 4, 0], [2, 2, 2, 2, 2, 1]))

    def step(self):
        if self.rnd.random() < self.wild:
            self.refused()
        what = self.rnd.choices((self.plug, self.unplug, self.come, self.fall, self.answer, self.settle),
                                self.weights)[0]
        what()
        self.same()

    def refused(self):
        for name, args in (("plug", (((0, 0, 10), ()),)), ("come", (((),), 0)), ("come", ((), 5)), ("unplug", (-1,)),
                           ("fall", (99999,)), ("answer", (-1,)), ("row", (-1,)), ("holds", (-1,))):
            self.case.assertRaises(MatchError, getattr(self.desk, name), *args)

    def plug(self):
        one = chance_thing(self.rnd, 2, 3)
        if len(self.model.things) < 6:
            self.case.assertEqual(self.desk.plug(one), self.model.do_plug(one))
        else:
            self.case.assertRaises(MatchError, self.desk.plug, one)

    def come(self):
        claims = tuple(chance_claim(self.rnd) for _ in range(self.rnd.randrange(4)))
        room = self.rnd.randrange(5)
        if len(self.model.helpers) < 8:
            self.case.assertEqual(self.desk.come(claims, room), self.model.do_come(claims, room))
        else:
            self.case.assertRaises(MatchError, self.desk.come, claims, room)

    def unplug(self):
        number = self.rnd.choice(sorted(self.model.things) + [self.model.plugged])
        if number in self.model.things:
            self.case.assertIsNone(self.desk.unplug(number))
            self.model.do_unplug(number)
        else:
            self.case.assertRaises(MatchError, self.desk.unplug, number)

    def fall(self):
        helper = self.rnd.choice(sorted(self.model.helpers) + [self.model.came])
        if helper in self.model.helpers:
            self.case.assertIsNone(self.desk.fall(helper))
            self.model.do_fall(helper)
        else:
            self.case.assertRaises(MatchError, self.desk.fall, helper)

    def answer(self):
        if self.model.helpers:
            helper = self.rnd.choice(sorted(self.model.helpers))
            self.case.assertEqual(self.desk.answer(helper), self.model.do_answer(helper))

    def settle(self):
        self.case.assertEqual(self.desk.settle(), self.model.do_settle())

    def same(self):
        case, desk, model = self.case, self.desk, self.model
        case.assertEqual(desk.things(), sorted(model.things))
        case.assertEqual(desk.helpers(), sorted(model.helpers))
        case.assertEqual(desk.standing(), model.standing())
        for helper in model.helpers:
            case.assertEqual(desk.row(helper), model.rows[helper])
            case.assertEqual(desk.holds(helper), model.holds(helper))
        case.assertEqual(desk.told(), model.log)


def check_sound(case, pair):
    """Point 12, and what goes without saying of states and rows."""
    standing = pair.desk.standing()
    state = {place: (word, helper) for place, word, helper in standing}
    case.assertEqual(len(state), len(standing))
    letters = {}
    for helper in pair.desk.helpers():
        case.assertLessEqual(len(pair.desk.holds(helper)), pair.model.helpers[helper][1])
        for letter in pair.desk.row(helper):
            case.assertNotIn(letter[1], letters)
            letters[letter[1]] = (letter[0], helper)
    for place, (word, helper) in state.items():
        case.assertIn(word, STATES)
        case.assertEqual(word == "free", helper is None)
        case.assertEqual(word == "taking", letters.get(place) == ("take", helper))
        case.assertEqual(word == "leaving", letters.get(place) == ("leave", helper))
        if len(place) > 1:
            case.assertIn(state[place[:-1]][0], ("held", "leaving"))
    case.assertLessEqual(set(letters), set(state))


def check_rest(case, pair):
    """Behind settle, what is held is what at_rest tells, and nothing is taking or leaving."""
    things = sorted(pair.model.things.items())
    helpers = [(number, *told) for number, told in sorted(pair.model.helpers.items())]
    held = [(place, helper) for place, word, helper in pair.desk.standing() if word != "free"]
    case.assertLessEqual({word for _, word, _ in pair.desk.standing()}, {"free", "held"})
    case.assertEqual(held, at_rest(things, helpers))
    case.assertEqual(could(things, helpers, held), [])
    case.assertEqual([pair.desk.row(helper) for helper in pair.desk.helpers()], [[]] * len(helpers))


class ByChance(unittest.TestCase):
    def test_step_by_step_as_the_model(self):
        for seed in range(90):
            pair = Pair(self, seed)
            with self.subTest(seed):
                for _ in range(60):
                    pair.step()
                    check_sound(self, pair)
                pair.settle()
                pair.same()
                check_sound(self, pair)
                check_rest(self, pair)

    def test_whatever_came_ahead_in_whatever_order(self):
        for seed in range(60):
            pair = Pair(self, seed)
            for _ in range(40):
                pair.step()
            # Answers by chance, and not the turns of settle, must come to the same.
            left = [helper for helper in pair.desk.helpers() if pair.desk.row(helper)]
            while left:
                self.assertIsNotNone(pair.desk.answer(pair.rnd.choice(left)))
                left = [helper for helper in pair.desk.helpers() if pair.desk.row(helper)]
            with self.subTest(seed):
                check_rest(self, pair)

    def test_what_a_desk_told_can_be_cut_off_anywhere(self):
        for seed in range(25):
            pair = Pair(self, seed)
            for _ in range(40):
                pair.step()
            log = pair.desk.told()
            with self.subTest(seed):
                for many in range(len(log) + 1):
                    self.assertIsNone(judge(log[:many]))
