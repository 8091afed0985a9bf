"""Logs, judged: whether all of it can have happened, whoever's goals they were."""

from drivermatch.checks import is_number
from drivermatch.errors import MatchError
from drivermatch.table import Table


def judge(log):
    """The number, from 0, of the first in the log that can't be, or None."""
    table = Table()
    for at, entry in enumerate(log):
        # What a desk would refuse at its doors can't have happened.
        try:
            possible = happens(table, entry)
        except MatchError:
            return at
        if not possible:
            return at
    return None


def happens(table, entry):
    """Let the entry happen, and tell whether it can; if not, the table is of no more use."""
    match entry:
        case ("plug", number, thing):
            return is_next(number, table.add_thing(thing))
        case ("unplug", number):
            table.remove_thing(number)
            return True
        case ("come", number, claims, room):
            return is_next(number, table.add_helper(claims, room))
        case ("fall", number):
            table.remove_helper(number)
            return True
        case ("letter", helper, letter):
            return goes(table, helper, letter)
        case ("done", helper, letter):
            return table.do_first(helper) == letter
    return False


def is_next(number, following):
    """Whether number is the one that follows, and not True or False, which equal 1 and 0."""
    return is_number(number, following, following)


def goes(table, helper, letter):
    """Send the letter, if it can go to the helper; tell whether it can."""
    table.check_helper(helper)
    if not table.may(helper, letter):
        return False
    table.send(helper, letter)
    return True
