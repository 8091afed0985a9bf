"""What is had at rest, and what could be had of any holding."""

from drivermatch.checks import MOST_NUMBER, check_claims, check_helpers, check_marks, check_things, is_number
from drivermatch.errors import BadHeld
from drivermatch.pairing import all_placed, best_fit, chosen, is_reachable, ranked, rooms_of


def fit(claims, marks):
    """How much the claims fit the marks: a number, or None if none of them does."""
    check_claims(claims)
    check_marks(marks)
    return best_fit(claims, marks)


def at_rest(things, helpers):
    """All (id, helper) that are had at rest, rising."""
    check_things(things)
    check_helpers(helpers)
    pairs = ranked(all_placed(things), helpers)
    had = chosen(pairs, rooms_of(helpers), lambda outer, helper: True)
    return sorted(had.items())


def could(things, helpers, held):
    """The pairs (id, helper) that could be had of the holding, those ahead first."""
    check_things(things)
    check_helpers(helpers)
    pairs = ranked(all_placed(things), helpers)
    rooms = rooms_of(helpers)
    check_held(held, pairs, rooms)
    ranks = {pair: rank for rank, pair in enumerate(pairs)}
    had = {place: ranks[(place, helper)] for place, helper in held}
    bounds = room_bounds(held, ranks, rooms)
    found = []
    for rank, (place, helper) in enumerate(pairs):
        # A had pair is not ahead of itself, so this leaves out what is had already.
        thing_lets = is_reachable(place, had) and rank < had.get(place, len(pairs))
        if thing_lets and rank < bounds[helper]:
            found.append((place, helper))
    return found


def check_held(held, pairs, rooms):
    """Refuse a holding that cannot be; pairs are all that fit."""
    known = {pair: True for pair in pairs}
    had = {place: True for place, _ in held}
    left = dict(rooms)
    ahead = {}
    for at, (place, helper) in enumerate(held):
        if not is_known(place, helper, known) or place in ahead:
            raise BadHeld(at)
        if left[helper] == 0 or not is_reachable(place, had):
            raise BadHeld(at)
        ahead[place] = True
        left[helper] -= 1


def is_known(place, helper, known):
    """Whether there are such a thing and such a helper, and it fits."""
    # True and False are found in a dict as 1 and 0, so the numbers are looked at first.
    numbers = all([is_number(part, 0, MOST_NUMBER) for part in place + (helper,)])
    return numbers and (place, helper) in known


def room_bounds(held, ranks, rooms):
    """Of each helper, the rank that a pair must be ahead of for the helper to take it."""
    owned = {helper: [] for helper in rooms}
    for place, helper in held:
        owned[helper].append(ranks[(place, helper)])
    bounds = {}
    for helper, room in rooms.items():
        if len(owned[helper]) < room:
            bounds[helper] = len(ranks)
        else:
            bounds[helper] = max(owned[helper], default=-1)
    return bounds
