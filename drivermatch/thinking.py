"""What the desk thinks: the goal of all that is there, and the letters that lead to it."""

from drivermatch.pairing import chosen, ranked
from drivermatch.table import FREE, HELD, LEAVE, TAKE


def goals_of(table):
    """Who is to have what: a dict from id to helper."""
    places = [(place, thing[0]) for place, thing in table.parts.items()]
    pairs = ranked(places, table.helper_list())
    return chosen(pairs, table.rooms, lambda outer, helper: table.is_held(outer, helper))


def wished(place, standing, goal):
    """(helper, letter) that leads a thing to its goal, None if it needs none or has one already."""
    state, helper = standing
    if state == HELD and helper != goal:
        return (helper, (LEAVE, place))
    if state == FREE and goal is not None:
        return (goal, (TAKE, place))
    return None


def think(table):
    """Send the letters that can go by now, and tell them as (helper, letter), in turn."""
    goals = goals_of(table)
    sent = []
    for place in sorted(table.parts):
        wish = wished(place, table.state_of(place), goals.get(place))
        if wish is not None:
            helper, letter = wish
            if table.may(helper, letter):
                table.send(helper, letter)
                sent.append(wish)
    return sent
