"""Point 14: things and helpers as texts."""

import copy
import random
import unittest

from drivermatch.errors import BadClaims, BadNumbers, BadRoom, BadText, BadThing
from drivermatch.notes import read, written
from drivermatch.rest import at_rest
from tests.samples import TAKES_ALL, chance_case, lone, refusal, taker, thing

HUB = thing((1, 0, 9), thing((2, 5, 5), thing((0, 0, 0)), thing((4, 4, 4))), thing((3, 3, 3)))
THINGS = [(0, HUB), lone(1, (7, 8, 9))]
HELPERS = [(0, (((1, -1, -1), 2), ((-1, -1, -1), 0)), 1), (1, (), 0), (2, (((9, 9, 9), 9),), 4)]
TEXT = """thing 0 1 0 9
thing 1 2 5 5
thing 2 0 0 0
thing 2 4 4 4
thing 1 3 3 3
thing 0 7 8 9
helper 1
claim 1 -1 -1 2
claim -1 -1 -1 0
helper 0
helper 4
claim 9 9 9 9"""
BAD_THING = ((0, 0, 10), ())
BAD_CLAIMS = (((0, 0, 0), 10),)
CLAIM = "claim 0 0 0 0"


class Written(unittest.TestCase):
    def test_each_ahead_of_those_within_it_and_the_claims_behind_the_helper(self):
        self.assertEqual(written(THINGS, HELPERS), TEXT)

    def test_none(self):
        self.assertEqual(written([], []), "")
        self.assertEqual(written([lone(0)], []), "thing 0 0 0 0")
        self.assertEqual(written([], [(0, (), 3)]), "helper 3")

    def test_numbers_from_0_on(self):
        text = "\n".join(["thing 0 0 0 0"] * 16 + ["helper 4"] * 16)
        self.assertEqual(written([lone(k) for k in range(16)], [(k, (), 4) for k in range(16)]), text)

    def test_all_figures(self):
        for k in range(10):
            self.assertEqual(written([lone(0, (k, 0, k))], [(0, (((k, -1, 0), k),), 0)]),
                             f"thing 0 {k} 0 {k}\nhelper 0\nclaim {k} -1 0 {k}")


class WrittenRefused(unittest.TestCase):
    def bad(self, things, helpers, kind, at=None):
        with self.subTest(things=things, helpers=helpers):
            before = copy.deepcopy((things, helpers))
            error = refusal(written, things, helpers)
            self.assertIs(error.__class__, kind)
            self.assertEqual(getattr(error, "at", None), at)
            self.assertEqual((things, helpers), before)

    def test_numbers_that_are_not_from_0_on(self):
        for numbers in ([1], [999], [-1], [0, 2], [0, 0], [1, 0], [0, 1, 3], [True], [0, True], [False], [1000]):
            self.bad([lone(k) for k in numbers], [], BadNumbers)
            self.bad([], [taker(k) for k in numbers], BadNumbers)

    def test_things(self):
        self.bad([(0, BAD_THING)], [], BadThing, 0)
        self.bad([lone(0), (1, thing((0, 0, 0), thing(), BAD_THING))], [], BadThing, 2)
        self.bad([(0, thing((0, 0, 0), thing((0, 0, 0), thing((0, 0, 0), thing()))))], [], BadThing, 3)
        self.bad([(0, thing((0, 0, 0), *[thing()] * 4))], [], BadThing, 0)

    def test_claims_and_rooms(self):
        self.bad([], [taker(0), (1, BAD_CLAIMS, 0)], BadClaims, 0)
        self.bad([], [(0, TAKES_ALL * 7, 0)], BadClaims, 6)
        for room in (-1, 5, True):
            self.bad([], [(0, TAKES_ALL, room)], BadRoom)

    def test_what_is_handed_in_first(self):
        self.bad([(1, BAD_THING)], [], BadNumbers)
        self.bad([(0, BAD_THING), lone(2)], [], BadNumbers)
        self.bad([(0, BAD_THING)], [taker(1)], BadThing, 0)
        self.bad([lone(1)], [(0, BAD_CLAIMS, 5)], BadNumbers)
        self.bad([], [(0, BAD_CLAIMS, 5), taker(2)], BadNumbers)
        self.bad([], [(0, BAD_CLAIMS, 5)], BadClaims, 0)
        self.bad([], [(0, (), 5), (1, BAD_CLAIMS, 0)], BadRoom)


class Read(unittest.TestCase):
    def test_things_and_helpers_as_at_rest_is_told(self):
        self.assertEqual(read(TEXT), (THINGS, HELPERS))
        self.assertEqual(at_rest(*read(TEXT)), at_rest(THINGS, HELPERS))

    def test_the_empty_text(self):
        self.assertEqual(read(""), ([], []))

    def test_only_things_and_only_helpers(self):
        self.assertEqual(read("thing 0 1 2 3"), ([lone(0, (1, 2, 3))], []))
        self.assertEqual(read("helper 4\nclaim -1 -1 -1 0"), ([], [(0, TAKES_ALL, 4)]))

    def test_all_figures(self):
        for k in range(10):
            told = ([lone(0, (k, 0, k))], [(0, (((k, -1, k), k),), min(k, 4))])
            self.assertEqual(read(f"thing 0 {k} 0 {k}\nhelper {min(k, 4)}\nclaim {k} -1 {k} {k}"), told)

    def test_the_kinds_of_what_is_told(self):
        told = read(TEXT)
        self.assertIs(told.__class__, tuple)
        things, helpers = told
        self.assertEqual((things.__class__, helpers.__class__), (list, list))
        # What has a hash is tuples throughout.
        self.assertEqual([hash(entry) for entry in things + helpers], [hash(entry) for entry in THINGS + HELPERS])

    def test_a_change_of_what_is_told_changes_no_later_answer(self):
        for text in ("", TEXT):
            before = copy.deepcopy(read(text))
            things, helpers = read(text)
            things.append("more")
            helpers.clear()
            self.assertEqual(read(text), before)

    def test_as_much_as_there_can_be(self):
        three = ["thing 1 0 0 0"] + ["thing 2 0 0 0"] * 3
        rows = (["thing 0 0 0 0"] + three * 3) * 6 + (["helper 4"] + [CLAIM] * 6) * 8
        things, helpers = read("\n".join(rows))
        inner = thing((0, 0, 0), thing(), thing(), thing())
        self.assertEqual(things, [(k, thing((0, 0, 0), inner, inner, inner)) for k in range(6)])
        self.assertEqual(helpers, [(k, (((0, 0, 0), 0),) * 6, 4) for k in range(8)])

    def test_more_than_sixteen_raise_no_error(self):
        things, helpers = read("\n".join(["thing 0 0 0 0"] * 90 + ["helper 0"] * 90))
        self.assertEqual([number for number, _ in things], list(range(90)))
        self.assertEqual([number for number, _, _ in helpers], list(range(90)))

    def test_what_is_written_is_read_to_the_same(self):
        for seed in range(300):
            things, helpers = chance_case(seed, 6, 8, 4, 3)
            things = [(k, one) for k, (_, one) in enumerate(things)]
            helpers = [(k, claims, room) for k, (_, claims, room) in enumerate(helpers)]
            text = written(things, helpers)
            self.assertEqual(read(text), (things, helpers))
            self.assertEqual(written(*read(text)), text)


class ReadRefused(unittest.TestCase):
    def bad(self, line, *rows):
        with self.subTest(rows):
            error = refusal(read, "\n".join(rows))
            self.assertIs(error.__class__, BadText)
            self.assertEqual(error.line, line)

    def bad_row(self, *rows):
        """The last row can't stand behind the others, which can, and is the first whatever comes behind."""
        read("\n".join(rows[:-1]))
        self.bad(len(rows) - 1, *rows)
        self.bad(len(rows) - 1, *rows, "nothing", "thing 0 0 0 0")

    def test_rows_that_are_none(self):
        for row in ("x", "things 0 0 0 0", "Thing 0 0 0 0", "0 0 0 0", "thing", "thing 0", "thing 0 0 0",
                    "thing 0 0 0 0 0", "thing,0,0,0,0", "helper", "helper 0 0", "Helper 0", "helpers 0", "HELPER 0",
                    "claim", "held 0 0", "0", "-1"):
            self.bad_row(row)
            self.bad_row("thing 0 0 0 0", row)
            self.bad_row("helper 0", row)
        for row in ("claim 0 0 0", "claim 0 0 0 0 0", "claim", "Claim 0 0 0 0", "claims 0 0 0 0"):
            self.bad_row("helper 0", row)

    def test_empty_rows(self):
        self.bad(0, "", "")
        self.bad(0, "", "thing 0 0 0 0")
        self.bad_row("thing 0 0 0 0", "")
        self.bad_row("helper 0", "")
        self.bad_row("helper 0", CLAIM, "")
        self.bad(1, "thing 0 0 0 0", "", "helper 0")

    def test_empty_words(self):
        for row in ("thing 0 0 0 0", "helper 0"):
            for other in (row + " ", " " + row, row.replace(" ", "  ", 1), row + "  ", row[:-1] + " " + row[-1]):
                self.bad_row(other)
        for other in (CLAIM + " ", " " + CLAIM, CLAIM.replace(" ", "  "), "claim 0  0 0", "claim 0 0 0 "):
            self.bad_row("helper 0", other)
        self.bad(0, " ")
        self.bad_row("thing 0 0 0 ")

    def test_numbers_beyond_their_range(self):
        for row in ("thing 3 0 0 0", "thing -1 0 0 0", "thing 0 -1 0 0", "thing 0 0 -1 0", "thing 0 0 0 -1", "helper 5",
                    "helper -1", "helper 9"):
            self.bad_row(row)
        for row in ("claim 0 0 0 -1", "claim -2 0 0 0", "claim 0 -2 0 0", "claim 0 0 -2 0"):
            self.bad_row("helper 0", row)
        self.bad_row("thing 0 0 0 0", "thing 1 0 0 0", "thing 2 0 0 0", "thing 3 0 0 0")

    def test_numbers_of_more_than_one_figure_or_of_none(self):
        for number in ("10", "00", "01", "+1", "-0", "1.", "1.0", "0x1", "a", "-", "--1", "-10", "1_0", "-01", "None",
                       "True"):
            for row in ("thing {} 0 0 0", "thing 0 {} 0 0", "thing 0 0 {} 0", "thing 0 0 0 {}", "helper {}"):
                self.bad_row(row.format(number))
            for row in ("claim {} 0 0 0", "claim 0 {} 0 0", "claim 0 0 {} 0", "claim 0 0 0 {}"):
                self.bad_row("helper 0", row.format(number))

    def test_a_thing_deeper_than_one_more(self):
        self.bad_row("thing 1 0 0 0")
        self.bad_row("thing 2 0 0 0")
        self.bad_row("thing 0 0 0 0", "thing 2 0 0 0")
        self.bad_row("thing 0 0 0 0", "thing 1 0 0 0", "thing 2 0 0 0", "thing 0 0 0 0", "thing 2 0 0 0")

    def test_a_thing_behind_a_helper(self):
        for row in ("thing 0 0 0 0", "thing 1 0 0 0"):
            self.bad_row("thing 0 0 0 0", "helper 0", row)
            self.bad_row("thing 0 0 0 0", "helper 0", CLAIM, row)
            self.bad_row("helper 0", row)

    def test_a_claim_behind_no_helper(self):
        self.bad_row(CLAIM)
        self.bad_row("thing 0 0 0 0", CLAIM)

    def test_a_seventh_claim(self):
        self.bad_row("helper 0", *[CLAIM] * 7)
        self.bad_row("helper 0", *[CLAIM] * 6, "helper 0", *[CLAIM] * 7)
        self.assertEqual(len(read("\n".join(["helper 0"] + [CLAIM] * 6))[1][0][1]), 6)

    def test_a_fourth_thing_within_one(self):
        four = ["thing 1 0 0 0"] * 4
        self.bad_row("thing 0 0 0 0", *four)
        self.bad_row("thing 0 0 0 0", *four[:3], "thing 0 0 0 0", *four)
        self.bad_row("thing 0 0 0 0", "thing 1 0 0 0", *["thing 2 0 0 0"] * 4)
        self.bad_row("thing 0 0 0 0", "thing 1 0 0 0", "thing 2 0 0 0", *four[1:])

    def test_the_first_of_several(self):
        self.bad(1, "thing 0 0 0 0", "thing 2 0 0 0", "x")
        self.bad(1, "thing 0 0 0 0", "x", "thing 2 0 0 0")

    def test_texts_by_chance(self):
        words = ["thing", "helper", "claim", "0", "1", "2", "-1", "5", "", "10"]
        good = 0
        for seed in range(3000):
            rnd = random.Random(seed)
            rows = TEXT.split("\n")[:rnd.randrange(1, 13)]
            for _ in range(rnd.randrange(1, 3)):
                at = rnd.randrange(len(rows))
                parts = rows[at].split(" ")
                parts[rnd.randrange(len(parts))] = rnd.choice(words)
                rows[at] = " ".join(parts)
            text = "\n".join(rows)
            try:
                self.assertEqual(written(*read(text)), text)
                good += 1
            except BadText as error:
                # All ahead of that line can stand, and that line can't.
                read("\n".join(rows[:error.line]))
                self.assertEqual(refusal(read, "\n".join(rows[:error.line + 1])).line, error.line)
        self.assertGreater(good, 100)
