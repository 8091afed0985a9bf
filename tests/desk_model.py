"""The document's desk once more, slowly and apart from the package, for tests to compare with.

What is there is never stored here: it is told anew from what is plugged in and who has what.
"""

from tests.model import Model, fit

HAD = ("held", "leaving")


class Board:
    """Things, helpers, states and rows, with what may be done, whoever's goals there are."""

    def __init__(self):
        self.things, self.helpers, self.rows, self.state = {}, {}, {}, {}
        self.plugged = self.came = 0

    def there(self):
        """A dict from id to marks, rising."""
        found = {}

        def walk(place, thing):
            found[place] = thing[0]
            if self.of(place)[0] in HAD:
                for which, inner in enumerate(thing[1]):
                    walk(place + (which,), inner)

        for number in sorted(self.things):
            walk((number,), self.things[number])
        return found

    def of(self, place):
        return self.state.get(place, ("free", None))

    def standing(self):
        return sorted((place,) + self.of(place) for place in self.there())

    def clear(self):
        """Nobody has what went, and there are no letters of it."""
        there = self.there()
        self.state = {place: told for place, told in self.state.items() if place in there}
        for helper in self.rows:
            self.rows[helper] = [letter for letter in self.rows[helper] if letter[1] in there]

    def busy(self, place):
        return self.of(place)[0] != "free"

    def below(self, place):
        return [other for other in self.there() if other != place and other[:len(place)] == place]

    def many(self, helper):
        return sum(1 for place in self.there() if self.of(place)[1] == helper)

    def may(self, helper, letter):
        word, place = letter
        if helper not in self.helpers or place not in self.there():
            return False
        claims, room = self.helpers[helper]
        if word == "take":
            return (not self.busy(place) and fit(claims, self.there()[place]) is not None
                    and self.many(helper) < room)
        return self.of(place) == ("held", helper) and not any(self.busy(other) for other in self.below(place))

    def send(self, helper, letter):
        self.state[letter[1]] = ("taking" if letter[0] == "take" else "leaving", helper)
        self.rows[helper].append(letter)

    def plug(self, thing):
        self.things[self.plugged] = thing
        self.plugged += 1
        return self.plugged - 1

    def come(self, claims, room):
        self.helpers[self.came] = (claims, room)
        self.rows[self.came] = []
        self.came += 1
        return self.came - 1

    def unplug(self, number):
        del self.things[number]
        self.clear()

    def fall(self, helper):
        del self.helpers[helper], self.rows[helper]
        # Rising, so that what went with an outer one is no more when its own turn comes.
        self.state = {place: told for place, told in self.state.items() if told[1] != helper}
        self.clear()

    def do(self, helper):
        if not self.rows[helper]:
            return None
        letter = self.rows[helper].pop(0)
        if letter[0] == "take":
            self.state[letter[1]] = ("held", helper)
        else:
            del self.state[letter[1]]
            self.clear()
        return letter

    def judged(self, entry):
        """Whether the entry of a log can be; it happens, if so."""
        word, rest = entry[0], entry[1:]
        if word == "plug":
            return rest[0] == self.plugged and len(self.things) < 6 and self.plug(rest[1]) is not None
        if word == "come":
            return rest[0] == self.came and len(self.helpers) < 8 and self.come(*rest[1:]) is not None
        if word in ("unplug", "fall"):
            ok = rest[0] in (self.things if word == "unplug" else self.helpers)
            if ok:
                getattr(self, word)(*rest)
            return ok
        helper, letter = rest
        if word == "letter":
            ok = self.may(helper, letter)
            if ok:
                self.send(helper, letter)
            return ok
        return helper in self.helpers and self.rows[helper][:1] == [letter] and self.do(helper) == letter


def judge(log):
    board = Board()
    for at, entry in enumerate(log):
        if not board.judged(entry):
            return at
    return None


class DeskModel(Board):
    """A board with goals. Only what can be is asked of it."""

    def __init__(self):
        super().__init__()
        self.log = []
        self.paired = (None, [])

    def goals(self):
        # All pairs, those of what is not there too: what is within another one comes behind it, and is passed
        # over unless the outer one is held by its goal.
        goal = {}
        for place, helper in self.pairs():
            outer = place[:-1]
            if outer and (outer not in goal or self.of(outer) != ("held", goal[outer])):
                continue
            if place not in goal and list(goal.values()).count(helper) < self.helpers[helper][1]:
                goal[place] = helper
        return goal

    def pairs(self):
        # Slow, and the same until a thing or a helper comes or goes.
        now = (sorted(self.things.items()), [(number, *told) for number, told in sorted(self.helpers.items())])
        if self.paired[0] != now:
            self.paired = (now, Model(*now).pairs)
        return self.paired[1]

    def think(self):
        goal = self.goals()
        for place in sorted(self.there()):
            state, helper = self.of(place)
            letters = []
            if state == "held" and goal.get(place) != helper:
                letters = [(helper, ("leave", place))]
            elif state == "free" and place in goal:
                letters = [(goal[place], ("take", place))]
            for to, letter in letters:
                if self.may(to, letter):
                    self.send(to, letter)
                    self.log.append(("letter", to, letter))

    def event(self, *entry):
        self.log.append(entry)
        self.think()

    def do_plug(self, thing):
        number = self.plug(thing)
        self.event("plug", number, thing)
        return number

    def do_come(self, claims, room):
        number = self.come(claims, room)
        self.event("come", number, claims, room)
        return number

    def do_unplug(self, number):
        self.unplug(number)
        self.event("unplug", number)

    def do_fall(self, helper):
        self.fall(helper)
        self.event("fall", helper)

    def do_answer(self, helper):
        letter = self.do(helper)
        if letter is None:
            self.think()
        else:
            self.event("done", helper, letter)
        return letter

    def do_settle(self):
        many = 0
        while any(self.rows.values()):
            for helper in sorted(self.helpers):
                many += self.do_answer(helper) is not None
        return many

    def holds(self, helper):
        return sorted(place for place, told in self.state.items() if told[1] == helper and told[0] in HAD)
