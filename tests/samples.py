"""Things, claims and cases that several tests use."""

import random

from drivermatch.errors import MatchError

ANYTHING = (-1, -1, -1)
TAKES_ALL = ((ANYTHING, 0),)


def thing(marks=(0, 0, 0), *inner):
    return (marks, tuple(inner))


def lone(number, marks=(0, 0, 0)):
    return (number, thing(marks))


def taker(number, room=4, worth=0):
    return (number, ((ANYTHING, worth),), room)


def chance_many(rnd, most):
    """A number from 0 to most, the greater ones more often."""
    return max(rnd.randrange(most + 1), rnd.randrange(most + 1))


def chance_thing(rnd, most_deep, most_within):
    marks = tuple(rnd.randrange(2) for _ in range(3))
    many = chance_many(rnd, most_within) if most_deep else 0
    return (marks, tuple(chance_thing(rnd, most_deep - 1, most_within) for _ in range(many)))


def chance_claim(rnd):
    return (tuple(rnd.choice((-1, -1, -1, 0, 1)) for _ in range(3)), rnd.randrange(3))


def chance_case(seed, most_things=3, most_helpers=3, most_room=2, most_within=2):
    """(things, helpers) that are the same for the same seed."""
    rnd = random.Random(seed)
    numbers = sorted(rnd.sample(range(1000), chance_many(rnd, most_things)))
    things = [(number, chance_thing(rnd, 2, most_within)) for number in numbers]
    numbers = sorted(rnd.sample(range(1000), chance_many(rnd, most_helpers)))
    helpers = []
    for number in numbers:
        claims = tuple(chance_claim(rnd) for _ in range(chance_many(rnd, 3)))
        helpers.append((number, claims, chance_many(rnd, most_room)))
    return things, helpers


def refusal(call, *args):
    """The MatchError that the call raises."""
    try:
        call(*args)
    except MatchError as error:
        return error
    raise AssertionError(f"{call.__name__}{args} was not refused")


def claims_on(*firsts, worth=0):
    """Claims to things by their first mark."""
    return tuple(((first, -1, -1), worth) for first in firsts)


def plug_all(desk, *things):
    return [desk.plug(one) for one in things]


def whole(desk):
    """All that a desk tells, without a change of it."""
    helpers = desk.helpers()
    return (desk.things(), helpers, desk.standing(), [desk.row(k) for k in helpers],
            [desk.holds(k) for k in helpers], desk.told())
