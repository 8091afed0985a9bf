"""Point 13: logs, judged."""

import copy
import random
import unittest

from drivermatch.desk import Desk
from drivermatch.judging import judge
from tests import desk_model
from tests.samples import ANYTHING, TAKES_ALL, chance_claim, chance_thing, claims_on, thing

HUB = thing((1, 1, 1), thing((2, 2, 2), thing((3, 3, 3))), thing((2, 2, 2)))
START = [("plug", 0, HUB), ("come", 0, claims_on(1), 1), ("come", 1, claims_on(2, 3), 2)]


def take(helper, *place):
    return ("letter", helper, ("take", place))


def leave(helper, *place):
    return ("letter", helper, ("leave", place))


def took(helper, *place):
    return ("done", helper, ("take", place))


def left(helper, *place):
    return ("done", helper, ("leave", place))


class Case(unittest.TestCase):
    def can(self, *log):
        self.assertIsNone(judge(list(log)))

    def cannot(self, *log):
        """The last one of the log is the first that can't be; what would stand behind it changes nothing."""
        at = len(log) - 1
        self.assertEqual(judge(list(log)), at)
        self.assertIsNone(judge(list(log[:-1])))
        self.assertEqual(judge(list(log) + [("unplug", 999), ("plug", 0, HUB)]), at)


class PlugsAndComes(Case):
    def test_the_empty_log(self):
        self.can()

    def test_numbers_in_turn_from_0_on(self):
        self.can(*[("plug", k, thing()) for k in range(6)])
        self.can(*[("come", k, (), 0) for k in range(8)])
        self.can(("plug", 0, HUB), ("unplug", 0), ("plug", 1, HUB), ("come", 0, (), 0), ("fall", 0), ("come", 1, (), 0))

    def test_other_numbers(self):
        for number in (1, -1, 999, True, False):
            self.cannot(("plug", number, thing()))
            self.cannot(("come", number, (), 0))
        for number in (0, 2, True):
            self.cannot(("plug", 0, thing()), ("plug", number, thing()))
            self.cannot(("come", 0, (), 0), ("come", number, (), 0))

    def test_no_number_again(self):
        self.cannot(("plug", 0, thing()), ("unplug", 0), ("plug", 0, thing()))
        self.cannot(("come", 0, (), 0), ("fall", 0), ("come", 0, (), 0))

    def test_none_too_many(self):
        six = [("plug", k, thing()) for k in range(6)]
        self.cannot(*six, ("plug", 6, thing()))
        self.can(*six, ("unplug", 3), ("plug", 6, thing()))
        self.cannot(*six, ("unplug", 3), ("plug", 6, thing()), ("plug", 7, thing()))
        eight = [("come", k, (), 0) for k in range(8)]
        self.cannot(*eight, ("come", 8, (), 0))
        self.can(*eight, ("fall", 3), ("come", 8, (), 0))
        self.cannot(*eight, ("fall", 3), ("come", 8, (), 0), ("come", 9, (), 0))

    def test_unplugged_and_fallen_is_what_is_there(self):
        for number in (0, 5, -1, True):
            self.cannot(("unplug", number))
            self.cannot(("fall", number))
        for number in (1, -1, False, True):
            self.cannot(*START[:2], ("unplug", number))
            self.cannot(*START[:2], ("fall", number))
        self.can(*START, ("unplug", 0), ("fall", 1), ("fall", 0))
        self.cannot(*START, ("unplug", 0), ("unplug", 0))
        self.cannot(*START, ("fall", 1), ("fall", 1))


class ToTake(Case):
    def test_a_free_thing(self):
        self.can(*START, take(0, 0))

    def test_by_a_helper_that_is_there(self):
        for helper in (2, -1, 999, False):
            self.cannot(*START, take(helper, 0))
        self.cannot(*START, ("fall", 0), take(0, 0))

    def test_of_a_thing_that_is_there(self):
        for place in ((1,), (0, 0), (0, 5), (-1,), (), (0, 0, 0), (0, 0, 0, 0)):
            self.cannot(*START, ("letter", 1, ("take", place)))
        self.cannot(*START, ("unplug", 0), take(0, 0))

    def test_what_is_within_from_when_the_outer_one_is_held(self):
        self.cannot(*START, take(0, 0), take(1, 0, 0))
        self.can(*START, take(0, 0), took(0, 0), take(1, 0, 0), take(1, 0, 1))
        self.cannot(*START, take(0, 0), took(0, 0), take(1, 0, 0), take(1, 0, 0, 0))
        self.can(*START, take(0, 0), took(0, 0), take(1, 0, 0), took(1, 0, 0), take(1, 0, 0, 0))
        self.cannot(*START, take(0, 0), took(0, 0), take(1, 0, 2))

    def test_what_is_within_until_the_outer_one_is_left(self):
        gone = [*START, take(0, 0), took(0, 0), leave(0, 0)]
        self.can(*gone, take(1, 0, 0))
        self.cannot(*gone, left(0, 0), take(1, 0, 0))

    def test_that_is_free(self):
        log = [*START, ("come", 2, TAKES_ALL, 4), take(0, 0)]
        for state in ([], [took(0, 0)], [took(0, 0), leave(0, 0)]):
            self.cannot(*log, *state, take(2, 0))
            self.cannot(*log, *state, take(0, 0))
        self.can(*log, took(0, 0), leave(0, 0), left(0, 0), take(2, 0))

    def test_that_fits(self):
        self.cannot(*START, take(1, 0))
        self.cannot(("plug", 0, HUB), ("come", 0, (), 4), take(0, 0))
        self.can(("plug", 0, HUB), ("come", 0, ((ANYTHING, 0),), 4), take(0, 0))

    def test_with_room(self):
        things = [("plug", k, thing()) for k in range(6)]
        for room in range(5):
            come = ("come", 0, TAKES_ALL, room)
            letters = [take(0, k) for k in range(6)]
            self.cannot(*things, come, *letters[:room + 1])
            done = [entry for k in range(room) for entry in (take(0, k), took(0, k))]
            self.cannot(*things, come, *done, take(0, room))
            self.cannot(*things, come, *done, *[leave(0, k) for k in range(room)], take(0, room))

    def test_room_that_is_left(self):
        log = [("plug", 0, thing()), ("plug", 1, thing()), ("come", 0, TAKES_ALL, 1), take(0, 0)]
        self.can(*log, ("unplug", 0), take(0, 1))
        self.can(*log, took(0, 0), leave(0, 0), left(0, 0), take(0, 1))
        self.cannot(*log, took(0, 0), leave(0, 0), take(0, 1))

    def test_whoevers_goals_they_were(self):
        log = [("plug", 0, thing()), ("plug", 1, thing()), ("come", 0, TAKES_ALL, 4), ("come", 1, TAKES_ALL, 4)]
        self.can(*log)
        self.can(*log, take(1, 1), take(0, 0), took(1, 1), leave(1, 1), ("come", 2, (), 0), left(1, 1), take(0, 1))


class ToLeave(Case):
    HELD = [*START, take(0, 0), took(0, 0)]

    def test_one_held_by_it(self):
        self.can(*self.HELD, leave(0, 0))
        self.can(*self.HELD, take(1, 0, 0), took(1, 0, 0), leave(1, 0, 0))

    def test_one_that_is_not_held(self):
        self.cannot(*START, leave(0, 0))
        self.cannot(*START, take(0, 0), leave(0, 0))
        self.cannot(*self.HELD, leave(0, 0), leave(0, 0))
        self.cannot(*self.HELD, leave(0, 0), left(0, 0), leave(0, 0))
        self.cannot(*self.HELD, leave(1, 0, 0))

    def test_one_held_by_another_one(self):
        self.cannot(*self.HELD, leave(1, 0))
        self.cannot(*self.HELD, leave(2, 0))

    def test_one_that_is_not_there(self):
        for place in ((1,), (0, 2), (), (0, 0, 0)):
            self.cannot(*self.HELD, ("letter", 0, ("leave", place)))

    def test_with_nothing_within_taking_held_or_leaving(self):
        inner = [*self.HELD, take(1, 0, 0)]
        self.cannot(*inner, leave(0, 0))
        self.cannot(*inner, took(1, 0, 0), leave(0, 0))
        self.cannot(*inner, took(1, 0, 0), leave(1, 0, 0), leave(0, 0))
        self.can(*inner, took(1, 0, 0), leave(1, 0, 0), left(1, 0, 0), leave(0, 0))
        self.can(*inner, ("fall", 1), leave(0, 0))

    def test_with_something_two_deep(self):
        log = [("plug", 0, HUB), ("come", 0, TAKES_ALL, 4), take(0, 0), took(0, 0), take(0, 0, 0), took(0, 0, 0),
               take(0, 0, 0, 0)]
        self.cannot(*log, leave(0, 0))
        self.cannot(*log, leave(0, 0, 0))
        self.cannot(*log, took(0, 0, 0, 0), leave(0, 0, 0))

    def test_what_is_beside_does_not_count(self):
        log = [("plug", 0, HUB), ("plug", 1, HUB), ("come", 0, TAKES_ALL, 4)]
        self.can(*log, take(0, 0), take(0, 1), took(0, 0), leave(0, 0))
        log = [*log, take(0, 0), took(0, 0), take(0, 0, 0), took(0, 0, 0), take(0, 0, 1)]
        self.can(*log, leave(0, 0, 0))


class Done(Case):
    def test_the_first_letter_of_the_row(self):
        log = [*START, ("plug", 1, thing((2, 2, 2))), ("plug", 2, thing((2, 2, 2))), take(1, 1), take(1, 2)]
        self.can(*log, took(1, 1), took(1, 2))
        self.cannot(*log, took(1, 2))
        self.cannot(*log, took(1, 1), took(1, 1))
        self.cannot(*log, took(0, 1))
        self.cannot(*log, left(1, 1))
        self.cannot(*log, took(1, 0))

    def test_of_an_empty_row_or_of_no_helper(self):
        self.cannot(*START, took(0, 0))
        self.cannot(*START, take(0, 0), took(0, 0), took(0, 0))
        self.cannot(took(0, 0))
        self.cannot(*START, took(2, 0))
        self.cannot(*START, take(0, 0), took(False, 0))

    def test_letters_of_what_went(self):
        log = [*START, take(0, 0), took(0, 0), take(1, 0, 0), take(1, 0, 1)]
        self.cannot(*log, ("unplug", 0), took(1, 0, 0))
        self.cannot(*log, ("fall", 0), took(1, 0, 0))
        self.cannot(*log, ("fall", 1), took(1, 0, 0))
        self.cannot(*START, take(0, 0), ("unplug", 0), took(0, 0))

    def test_letters_within_what_is_left(self):
        log = [*START, take(0, 0), took(0, 0), leave(0, 0), take(1, 0, 0)]
        self.can(*log, took(1, 0, 0), left(0, 0))
        self.cannot(*log, left(0, 0), took(1, 0, 0))
        self.cannot(*log, took(1, 0, 0), left(0, 0), leave(1, 0, 0))
        # What is within goes, and then takes no room any more.
        more = [("plug", 1, thing((2, 2, 2))), ("plug", 2, thing((2, 2, 2)))]
        self.can(*log, took(1, 0, 0), left(0, 0), *more, take(1, 1), take(1, 2))

    def test_what_a_fall_frees_can_be_taken(self):
        log = [*START, ("come", 2, TAKES_ALL, 1), take(0, 0), took(0, 0), ("fall", 0)]
        self.can(*log, take(2, 0))
        self.cannot(*log, take(1, 0, 0))
        self.cannot(*log, leave(2, 0))


class Whole(Case):
    def desk_log(self):
        desk = Desk()
        for one in (HUB, thing((2, 2, 2)), thing((5, 5, 5))):
            desk.plug(one)
        for claims, room in ((claims_on(1), 1), (claims_on(2, 3), 2), (((ANYTHING, 0),), 4)):
            desk.come(claims, room)
        desk.settle()
        desk.come(((ANYTHING, 1),), 4)
        desk.settle()
        desk.fall(3)
        desk.settle()
        return desk.told()

    def test_what_a_desk_told(self):
        log = self.desk_log()
        self.assertGreater(len(log), 40)
        for many in range(len(log) + 1):
            self.can(*log[:many])

    def test_a_log_that_is_cut_off_in_front(self):
        log = self.desk_log()
        for many in range(1, len(log)):
            self.assertIsNotNone(judge(log[many:]))

    def test_the_longest_log(self):
        log = []
        for number in range(600):
            log += [("plug", number, HUB), ("unplug", number)]
        self.can(*log)
        self.assertEqual(judge(log[:-1] + [("unplug", 598)]), 1199)

    def test_the_log_is_not_changed_and_the_same_is_told_again(self):
        log = self.desk_log() + [("unplug", 77)]
        before = copy.deepcopy(log)
        self.assertEqual([judge(log), judge(log)], [len(log) - 1] * 2)
        self.assertEqual(log, before)

    def test_letters_by_chance_whoevers_goals_they_were(self):
        for seed in range(100):
            log = self.chance_log(random.Random(seed))
            with self.subTest(seed):
                self.assertIsNone(desk_model.judge(log))
                self.assertIsNone(judge(log))

    def test_logs_with_a_change_by_chance(self):
        found = []
        for seed in range(250):
            rnd = random.Random(seed)
            log = self.chance_log(rnd)
            for _ in range(rnd.randrange(1, 3)):
                self.spoil(log, rnd)
            expected = desk_model.judge(log)
            with self.subTest(seed):
                self.assertEqual(judge(log), expected)
            found.append(expected)
        self.assertGreater(len(found) - found.count(None), 150)
        self.assertGreater(found.count(None), 5)

    def spoil(self, log, rnd):
        at = rnd.randrange(len(log))
        way = rnd.randrange(4)
        if way == 0:
            del log[at]
        elif way == 1:
            log.insert(at, rnd.choice(log))
        elif way == 2:
            other = rnd.randrange(len(log))
            log[at], log[other] = log[other], log[at]
        else:
            entry = list(log[at])
            if entry[0] in ("letter", "done") and rnd.randrange(2):
                word, place = entry[2]
                entry[2] = (rnd.choice(("take", "leave")), rnd.choice((place, place[:-1], place + (0,), (0,))))
            else:
                entry[1] = max(0, entry[1] + rnd.choice((-1, 1)))
            log[at] = tuple(entry)

    def chance_log(self, rnd):
        """A log that can be, with letters of all that may go, by no goals."""
        board, log = desk_model.Board(), []
        while len(log) < 60:
            letters = [("letter", helper, (word, place)) for helper in board.helpers for place in board.there()
                       for word in ("take", "leave")]
            done = [("done", helper, board.rows[helper][0]) for helper in board.helpers if board.rows[helper]]
            claims = tuple(chance_claim(rnd) for _ in range(rnd.randrange(1, 4)))
            entries = rnd.choices((
                [("plug", board.plugged, chance_thing(rnd, 2, 3))], [("unplug", k) for k in board.things],
                [("come", board.came, claims, rnd.randrange(5))], [("fall", k) for k in board.helpers],
                letters, done), (3, 1, 3, 1, 12, 12))[0]
            rnd.shuffle(entries)
            for entry in entries:
                if board.judged(entry):
                    log.append(entry)
                    break
        return log
