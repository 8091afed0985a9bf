"""The document's words once more, slowly and apart from the package, for tests to compare with."""

from functools import cmp_to_key


def ids(things):
    """A dict from id to marks."""
    found = {}

    def walk(place, thing):
        found[place] = thing[0]
        for which, inner in enumerate(thing[1]):
            walk(place + (which,), inner)

    for number, thing in things:
        walk((number,), thing)
    return found


def fit(claims, marks):
    best = None
    for wanted, worth in claims:
        told = [k for k in range(3) if wanted[k] != -1]
        if all(wanted[k] == marks[k] for k in told):
            best = max(10 * worth + len(told), -1 if best is None else best)
    return best


class Model:
    def __init__(self, things, helpers):
        self.marks = ids(things)
        self.claims = {number: claims for number, claims, _ in helpers}
        self.room = {number: room for number, _, room in helpers}
        self.pairs = sorted(
            [(place, helper) for place in self.marks for helper in self.claims if self.fit((place, helper)) is not None],
            key=cmp_to_key(lambda a, b: -1 if self.is_ahead(a, b) else (0 if a == b else 1)))

    def fit(self, pair):
        return fit(self.claims[pair[1]], self.marks[pair[0]])

    def is_ahead(self, a, b):
        if len(a[0]) != len(b[0]):
            return len(a[0]) < len(b[0])
        if self.fit(a) != self.fit(b):
            return self.fit(a) > self.fit(b)
        if a[1] != b[1]:
            return a[1] < b[1]
        return a[0] < b[0]

    def of(self, helper, held):
        return [pair for pair in held if pair[1] == helper]

    def could(self, held):
        found = []
        had = [place for place, _ in held]
        for pair in self.pairs:
            place, helper = pair
            mine = self.of(helper, held)
            if (pair not in held
                    and (len(place) == 1 or place[:-1] in had)
                    and all(self.is_ahead(pair, other) for other in held if other[0] == place)
                    and (len(mine) < self.room[helper] or any(self.is_ahead(pair, other) for other in mine))):
                found.append(pair)
        return found

    def has(self, held, pair):
        """The holding once the pair is had."""
        place, helper = pair
        gone = [other for other in held if other[0] == place]
        held = self.without(held, gone)
        mine = self.of(helper, held)
        if len(mine) == self.room[helper]:
            last = mine[0]
            for other in mine:
                if self.is_ahead(last, other):
                    last = other
            held = self.without(held, [last])
        return held + [pair]

    def without(self, held, gone):
        places = [place for place, _ in gone]
        return [(place, helper) for place, helper in held if not any(place[:len(p)] == p for p in places)]

    def holdings(self):
        """Each holding that can be, once, outer things ahead of inner ones."""
        places = sorted(self.marks, key=lambda place: (len(place), place))

        def grow(at, held):
            if at == len(places):
                yield held
                return
            yield from grow(at + 1, held)
            place = places[at]
            if len(place) > 1 and place[:-1] not in [p for p, _ in held]:
                return
            for helper in sorted(self.claims):
                if (place, helper) in self.pairs and len(self.of(helper, held)) < self.room[helper]:
                    yield from grow(at + 1, held + [(place, helper)])

        yield from grow(0, [])
