"""Pairs of things and helpers, in their order, and who has what at rest."""

from drivermatch.checks import ANY


def placed(place, thing):
    """(id, marks) of a thing with the id place and of all within it, outer ones first."""
    marks, inner = thing
    found = [(place, marks)]
    for which, part in enumerate(inner):
        found.extend(placed(place + (which,), part))
    return found


def all_placed(things):
    """(id, marks) of all in a list of (number, thing)."""
    found = []
    for number, thing in things:
        found.extend(placed((number,), thing))
    return found


def fits(claim, marks):
    wanted, _ = claim
    return all([want == ANY or want == mark for want, mark in zip(wanted, marks)])


def size(claim):
    wanted, worth = claim
    return 10 * worth + len(wanted) - wanted.count(ANY)


def best_fit(claims, marks):
    """How much the claims fit the marks, or None if none of them does."""
    return max([size(claim) for claim in claims if fits(claim, marks)], default=None)


def ranked(places, helpers):
    """All pairs (id, helper) of (id, marks) and (number, claims, room), those ahead first."""
    ranks = []
    for place, marks in places:
        for number, claims, _ in helpers:
            much = best_fit(claims, marks)
            if much is not None:
                ranks.append((len(place), -much, number, place))
    return [(rank[3], rank[2]) for rank in sorted(ranks)]


def rooms_of(helpers):
    return {number: room for number, _, room in helpers}


def is_reachable(place, had):
    """Whether a thing is plugged in itself, or within one that is had."""
    return len(place) == 1 or place[:-1] in had


def chosen(pairs, rooms, lets_in):
    """Who has which thing at rest: a dict from id to helper. The pairs come those ahead first.

    lets_in(id, helper) tells whether what is within a thing can be had, once the helper has the thing.
    """
    had = {}
    left = dict(rooms)
    for place, helper in pairs:
        if place not in had and left[helper] > 0 and is_let_in(place, had, lets_in):
            had[place] = helper
            left[helper] -= 1
    return had


def is_let_in(place, had, lets_in):
    outer = place[:-1]
    return is_reachable(place, had) and (outer not in had or lets_in(outer, had[outer]))
