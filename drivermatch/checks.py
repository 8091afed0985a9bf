"""What things, claims, rooms and numbers are, and the refusals of others."""

from drivermatch.errors import BadClaims, BadNumbers, BadRoom, BadThing

ANY = -1
MOST_MARK = 9
MOST_WORTH = 9
MOST_WITHIN = 3
MOST_DEEP = 2
MOST_CLAIMS = 6
MOST_ROOM = 4
MOST_NUMBER = 999


def is_number(value, low, high):
    """Whether value is a whole number from low to high."""
    # To Python True and False are integers, to the document they are no numbers.
    return isinstance(value, int) and not isinstance(value, bool) and low <= value <= high


def is_three(value, low):
    """Whether value is a tuple of three numbers from low to the greatest mark."""
    if not isinstance(value, tuple) or len(value) != 3:
        return False
    return all([is_number(mark, low, MOST_MARK) for mark in value])


def is_marks(value):
    return is_three(value, 0)


def is_wanted(value):
    return is_three(value, ANY)


def is_shell(value):
    """Whether value is a thing, whatever the things within it are like."""
    if not isinstance(value, tuple) or len(value) != 2:
        return False
    marks, inner = value
    return is_marks(marks) and isinstance(inner, tuple) and len(inner) <= MOST_WITHIN


def is_claim(value):
    if not isinstance(value, tuple) or len(value) != 2:
        return False
    wanted, worth = value
    return is_wanted(wanted) and is_number(worth, 0, MOST_WORTH)


def check_marks(marks):
    if not is_marks(marks):
        raise BadThing(0)


def check_thing(thing):
    at = 0
    ahead = [(thing, 0)]
    while ahead:
        part, deep = ahead.pop()
        if deep > MOST_DEEP or not is_shell(part):
            raise BadThing(at)
        # The last one is popped first, so the first one within goes on last.
        for inner in reversed(part[1]):
            ahead.append((inner, deep + 1))
        at += 1


def check_claims(claims):
    for at, claim in enumerate(claims):
        if at >= MOST_CLAIMS or not is_claim(claim):
            raise BadClaims(at)


def check_room(room):
    if not is_number(room, 0, MOST_ROOM):
        raise BadRoom("a room is a number from 0 to 4")


def check_numbers(numbers):
    least = 0
    for number in numbers:
        if not is_number(number, least, MOST_NUMBER):
            raise BadNumbers("numbers rise, from 0 to 999")
        least = number + 1


def check_counted(numbers):
    for at, number in enumerate(numbers):
        if not is_number(number, at, at):
            raise BadNumbers("numbers are 0, 1, 2 and so on")


def check_things(things):
    """Refuse what is no list of (number, thing): the numbers ahead of all things."""
    check_numbers([number for number, _ in things])
    for _, thing in things:
        check_thing(thing)


def check_helpers(helpers):
    """Refuse what is no list of (number, claims, room): the numbers ahead of the rest."""
    check_numbers([helper[0] for helper in helpers])
    for _, claims, room in helpers:
        check_claims(claims)
        check_room(room)
