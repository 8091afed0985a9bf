"""The desk, which tells helpers by letters what to take and to leave."""

from drivermatch.table import Table
from drivermatch.thinking import think


class Desk:
    """What is plugged in, which helpers there are, and all that happened."""

    def __init__(self):
        self.table = Table()
        self.log = []

    def plug(self, thing):
        """Plug a thing in, and tell its number."""
        number = self.table.add_thing(thing)
        self.go_on(("plug", number, thing))
        return number

    def unplug(self, number):
        """Take a thing away, with all that is within it."""
        self.table.remove_thing(number)
        self.go_on(("unplug", number))

    def come(self, claims, room):
        """Let a helper come, and tell its number."""
        number = self.table.add_helper(claims, room)
        self.go_on(("come", number, claims, room))
        return number

    def fall(self, helper):
        """Take a helper away; all that is with it is free."""
        self.table.remove_helper(helper)
        self.go_on(("fall", helper))

    def answer(self, helper):
        """Let a helper do its first letter, and tell it; None if there is none."""
        letter = self.table.do_first(helper)
        # Without a letter nothing has changed, and the desk has thought of it all already.
        if letter is not None:
            self.go_on(("done", helper, letter))
        return letter

    def settle(self):
        """Let helpers do letters until all rows are empty, and tell how many were done."""
        many = 0
        while any([len(row) > 0 for row in self.table.rows.values()]):
            for helper in self.helpers():
                if self.answer(helper) is not None:
                    many += 1
        return many

    def things(self):
        """The numbers of what is plugged in, rising."""
        return self.table.thing_numbers()

    def helpers(self):
        """The numbers of the helpers that there are, rising."""
        return self.table.helper_numbers()

    def standing(self):
        """(id, state, helper) of all that are there, rising."""
        rows = []
        for place in sorted(self.table.parts):
            state, helper = self.table.state_of(place)
            rows.append((place, state, helper))
        return rows

    def row(self, helper):
        """A helper's letters that are not done, in turn."""
        return list(self.table.row_of(helper))

    def holds(self, helper):
        """The ids of what a helper has, rising."""
        return self.table.places_had(helper)

    def told(self):
        """All that happened, in turn."""
        return list(self.log)

    def go_on(self, entry):
        """Note what happened, think, and note the letters."""
        self.log.append(entry)
        for helper, letter in think(self.table):
            self.log.append(("letter", helper, letter))
