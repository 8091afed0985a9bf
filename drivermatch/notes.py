"""Things and helpers as a text, and back."""

from drivermatch.checks import MOST_CLAIMS, MOST_DEEP, MOST_ROOM, MOST_WITHIN
from drivermatch.checks import check_counted, check_helpers, check_things, is_claim, is_marks, is_number
from drivermatch.errors import BadText

# The only ways to write a number; int() would take others, like 07 and +7, too.
FIGURES = {"-1": -1, "0": 0, "1": 1, "2": 2, "3": 3, "4": 4, "5": 5, "6": 6, "7": 7, "8": 8, "9": 9}


def written(things, helpers):
    """The text of things and helpers with numbers from 0 on."""
    check_counted([number for number, _ in things])
    check_things(things)
    check_counted([helper[0] for helper in helpers])
    check_helpers(helpers)
    rows = []
    for _, thing in things:
        rows.extend(thing_rows(thing, 0))
    for _, claims, room in helpers:
        rows.extend(helper_rows(claims, room))
    return "\n".join(rows)


def thing_rows(thing, deep):
    """The rows of a thing that is within so many others, and of all within it."""
    marks, inner = thing
    a, b, c = marks
    rows = [f"thing {deep} {a} {b} {c}"]
    for part in inner:
        rows.extend(thing_rows(part, deep + 1))
    return rows


def helper_rows(claims, room):
    rows = [f"helper {room}"]
    for wanted, worth in claims:
        a, b, c = wanted
        rows.append(f"claim {a} {b} {c} {worth}")
    return rows


def read(text):
    """(things, helpers) of a text, with numbers from 0 on."""
    reader = Reader()
    # Split, the empty text would have one row, an empty one.
    rows = text.split("\n") if text else []
    for line, row in enumerate(rows):
        if not reader.take_row(row):
            raise BadText(line)
    things = [(number, closed(tree)) for number, tree in enumerate(reader.trees)]
    helpers = [(number, tuple(claims), room) for number, (room, claims) in enumerate(reader.staff)]
    return (things, helpers)


def closed(tree):
    """The thing of (marks, list of those within)."""
    marks, inner = tree
    return (marks, tuple([closed(part) for part in inner]))


class Reader:
    """What the rows so far have told.

    trees: what is plugged in, as (marks, list of those within). path: the last thing, behind those that it is
    within. staff: the helpers, as (room, list of claims).
    """

    def __init__(self):
        self.trees = []
        self.path = []
        self.staff = []

    def take_row(self, row):
        """Add what the row tells, and tell whether it is a row that can stand here."""
        words = row.split(" ")
        numbers = tuple([FIGURES.get(word) for word in words[1:]])
        if words[0] == "thing":
            return len(numbers) == 4 and self.take_thing(numbers[0], numbers[1:])
        if words[0] == "helper":
            return len(numbers) == 1 and self.take_helper(numbers[0])
        if words[0] == "claim":
            return len(numbers) == 4 and self.take_claim((numbers[:3], numbers[3]))
        return False

    def take_thing(self, deep, marks):
        if not is_number(deep, 0, MOST_DEEP) or not is_marks(marks):
            return False
        if self.staff or deep > len(self.path):
            return False
        among = self.trees
        if deep > 0:
            _, among = self.path[deep - 1]
            if len(among) >= MOST_WITHIN:
                return False
        tree = (marks, [])
        among.append(tree)
        self.path = self.path[:deep] + [tree]
        return True

    def take_helper(self, room):
        if not is_number(room, 0, MOST_ROOM):
            return False
        self.staff.append((room, []))
        return True

    def take_claim(self, claim):
        if not is_claim(claim) or not self.staff:
            return False
        _, claims = self.staff[-1]
        if len(claims) >= MOST_CLAIMS:
            return False
        claims.append(claim)
        return True
