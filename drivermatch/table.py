"""What is there, with whom it is, and which letters are not done: for the desk, and for logs that are judged."""

from drivermatch.checks import check_claims, check_room, check_thing
from drivermatch.errors import NoHelper, NoThing, TooMany
from drivermatch.pairing import best_fit

MOST_THINGS = 6
MOST_HELPERS = 8
FREE = "free"
TAKING = "taking"
HELD = "held"
LEAVING = "leaving"
TAKE = "take"
LEAVE = "leave"


class Table:
    """Knows what can be done and what comes of it, but no goals.

    parts: each id that there is, to its thing. states: each id that is not free, to (state, helper).
    claims, rooms, rows: each helper that there is, to its claims, its room and its letters that are not done.
    plugged, came: how many there ever were, and so the next numbers.
    """

    def __init__(self):
        self.parts = {}
        self.states = {}
        self.claims = {}
        self.rooms = {}
        self.rows = {}
        self.plugged = 0
        self.came = 0

    def thing_numbers(self):
        return sorted([place[0] for place in self.parts if len(place) == 1])

    def helper_numbers(self):
        return sorted(self.rows)

    def helper_list(self):
        """The helpers that there are, as at_rest is told them."""
        return [(helper, self.claims[helper], self.rooms[helper]) for helper in self.helper_numbers()]

    def check_helper(self, helper):
        # True and False would be found in a dict as 1 and 0.
        if isinstance(helper, bool) or helper not in self.rows:
            raise NoHelper("there is no such helper")

    def row_of(self, helper):
        """The helper's own row, not a copy."""
        self.check_helper(helper)
        return self.rows[helper]

    def state_of(self, place):
        """(state, helper) of a thing that is there."""
        return self.states.get(place, (FREE, None))

    def is_held(self, place, helper):
        return self.state_of(place) == (HELD, helper)

    def places_with(self, helper):
        """The ids of all that is taking, held or leaving with the helper, rising."""
        return sorted([place for place, (_, other) in self.states.items() if other == helper])

    def places_had(self, helper):
        """The ids of all that the helper has by now, rising."""
        self.check_helper(helper)
        return [place for place in self.places_with(helper) if self.states[place] != (TAKING, helper)]

    def within(self, place):
        """The ids of all that is there within a thing."""
        many = len(place)
        return [other for other in self.parts if len(other) > many and other[:many] == place]

    def add_thing(self, thing):
        """Plug a thing in, and tell its number."""
        check_thing(thing)
        if len(self.thing_numbers()) >= MOST_THINGS:
            raise TooMany("a desk takes six things")
        number = self.plugged
        self.plugged += 1
        self.parts[(number,)] = thing
        return number

    def remove_thing(self, number):
        if isinstance(number, bool) or (number,) not in self.parts:
            raise NoThing("there is no such thing")
        place = (number,)
        self.drop([place] + self.within(place))

    def add_helper(self, claims, room):
        """Let a helper come, and tell its number."""
        check_claims(claims)
        check_room(room)
        if len(self.rows) >= MOST_HELPERS:
            raise TooMany("a desk takes eight helpers")
        number = self.came
        self.came += 1
        self.claims[number] = claims
        self.rooms[number] = room
        self.rows[number] = []
        return number

    def remove_helper(self, helper):
        self.check_helper(helper)
        del self.claims[helper]
        del self.rooms[helper]
        del self.rows[helper]
        owned = self.places_with(helper)
        for place in owned:
            # One of them may have gone already, within another one of them.
            if place in self.states:
                self.set_free(place)

    def set_free(self, place):
        """Nobody has the thing from now on, and what is within it goes."""
        del self.states[place]
        self.drop(self.within(place))

    def drop(self, places):
        """Let things go: nobody has them, and no row has a letter of them."""
        for place in places:
            del self.parts[place]
            self.states.pop(place, None)
        for helper, row in list(self.rows.items()):
            self.rows[helper] = [letter for letter in row if letter[1] in self.parts]

    def may(self, helper, letter):
        """Whether the letter can go to a helper that is there, whatever the goals are."""
        word, place = letter
        if word == TAKE:
            return self.may_take(helper, place)
        return word == LEAVE and self.may_leave(helper, place)

    def may_take(self, helper, place):
        if place not in self.parts or place in self.states:
            return False
        marks, _ = self.parts[place]
        if best_fit(self.claims[helper], marks) is None:
            return False
        return len(self.places_with(helper)) < self.rooms[helper]

    def may_leave(self, helper, place):
        if not self.is_held(place, helper):
            return False
        return all([other not in self.states for other in self.within(place)])

    def send(self, helper, letter):
        """Put a letter that may go to the helper behind its row."""
        word, place = letter
        state = TAKING if word == TAKE else LEAVING
        self.states[place] = (state, helper)
        self.rows[helper].append(letter)

    def do_first(self, helper):
        """Let the helper do its first letter, and tell it; None if there is none."""
        row = self.row_of(helper)
        if not row:
            return None
        letter = row.pop(0)
        word, place = letter
        if word == TAKE:
            self.hold(helper, place)
        else:
            self.set_free(place)
        return letter

    def hold(self, helper, place):
        """The helper has the thing from now on, and what is within it is there."""
        self.states[place] = (HELD, helper)
        _, inner = self.parts[place]
        for which, part in enumerate(inner):
            self.parts[place + (which,)] = part
