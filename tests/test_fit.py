"""Point 3, and the marks of point 2: what fit tells and refuses."""

import unittest

from drivermatch.errors import BadClaims, BadThing
from drivermatch.rest import fit
from tests.samples import refusal

NONE_TOLD = (-1, -1, -1)
GOOD = ((1, 2, 3), 4)


class Fits(unittest.TestCase):
    def test_ten_times_the_worth_and_the_marks_told(self):
        marks = (1, 2, 3)
        for wanted, told in ((NONE_TOLD, 0), ((1, -1, -1), 1), ((-1, 2, -1), 1), ((-1, -1, 3), 1),
                             ((1, 2, -1), 2), ((1, -1, 3), 2), ((-1, 2, 3), 2), ((1, 2, 3), 3)):
            for worth in range(10):
                with self.subTest(wanted=wanted, worth=worth):
                    self.assertEqual(fit(((wanted, worth),), marks), 10 * worth + told)

    def test_each_told_mark_must_be_so(self):
        for wanted in ((2, 2, 3), (1, 3, 3), (1, 2, 4), (0, -1, -1), (-1, 0, -1), (-1, -1, 0), (3, 2, 1)):
            with self.subTest(wanted):
                self.assertIsNone(fit(((wanted, 9),), (1, 2, 3)))

    def test_marks_0_and_9(self):
        self.assertEqual(fit((((0, 9, 0), 0),), (0, 9, 0)), 3)
        self.assertEqual(fit((((0, -1, -1), 9),), (0, 9, 0)), 91)
        self.assertIsNone(fit((((9, 9, 9), 9),), (9, 9, 0)))

    def test_no_claims_fit_nothing(self):
        self.assertIsNone(fit((), (0, 0, 0)))

    def test_nought_is_told_and_is_not_none(self):
        self.assertEqual(fit(((NONE_TOLD, 0),), (5, 5, 5)), 0)
        self.assertIsNotNone(fit(((NONE_TOLD, 0),), (5, 5, 5)))

    def test_the_greatest_that_fits_wherever_it_stands(self):
        small, great, other = ((1, -1, -1), 2), (NONE_TOLD, 3), ((2, 2, 2), 9)
        for claims in ((small, great, other), (other, small, great), (great, other, small)):
            self.assertEqual(fit(claims, (1, 1, 1)), 30)

    def test_worth_goes_ahead_of_marks_told(self):
        self.assertEqual(fit((((1, 2, 3), 4), (NONE_TOLD, 5)), (1, 2, 3)), 50)

    def test_six_claims(self):
        claims = tuple((NONE_TOLD, worth) for worth in (3, 1, 4, 1, 5, 9))
        self.assertEqual(fit(claims, (0, 0, 0)), 90)

    def test_the_same_is_told_again(self):
        claims = (GOOD,)
        self.assertEqual([fit(claims, (1, 2, 3)) for _ in range(3)], [43, 43, 43])


class Refused(unittest.TestCase):
    def claims_at(self, claims, at):
        error = refusal(fit, claims, (0, 0, 0))
        self.assertIs(error.__class__, BadClaims)
        self.assertEqual(error.at, at)

    def test_a_seventh_claim(self):
        self.claims_at((GOOD,) * 7, 6)
        self.claims_at((GOOD,) * 9, 6)

    def test_a_seventh_that_is_none(self):
        self.claims_at((GOOD,) * 6 + ((),), 6)

    def test_the_first_that_cannot_be_goes_ahead_of_a_seventh(self):
        bad = (NONE_TOLD, 10)
        for at in range(6):
            claims = [GOOD] * 7
            claims[at] = bad
            self.claims_at(tuple(claims), at)

    def test_each_field_beyond_its_range(self):
        for bad in ((NONE_TOLD, 10), (NONE_TOLD, -1), ((10, 0, 0), 0), ((0, 10, 0), 0), ((0, 0, 10), 0),
                    ((-2, 0, 0), 0), ((0, -2, 0), 0), ((0, 0, -2), 0)):
            with self.subTest(bad):
                self.claims_at((bad,), 0)
                self.claims_at((GOOD, bad, bad), 1)

    def test_other_tuples(self):
        for bad in (5, (), (1,), (1, 2), ((0, 0, 0),), ((0, 0), 1), ((0, 0, 0, 0), 1), ((0, 0, 0), 1, 2),
                    ((0, 0, 0), ()), ((0, 0, (0,)), 1), (-1, 3), ((), 0), (3, (0, 0, 0)), ((0, 0, 0), (1,))):
            with self.subTest(bad):
                self.claims_at((bad,), 0)
                self.claims_at((GOOD, GOOD, bad), 2)

    def test_true_and_false_are_no_numbers(self):
        self.claims_at((((True, 0, 0), 0),), 0)
        self.claims_at((((0, 0, 0), False),), 0)

    def test_other_marks(self):
        for marks in ((), (0,), (0, 0), (0, 0, 0, 0), (10, 0, 0), (0, 10, 0), (0, 0, 10), (-1, 0, 0), (0, -1, 0),
                      (0, 0, -1), ((0, 0, 0), ()), (0, (0,), 0), ((), (), ()), (0, 0, True)):
            with self.subTest(marks):
                error = refusal(fit, (GOOD,), marks)
                self.assertIs(error.__class__, BadThing)
                self.assertEqual(error.at, 0)

    def test_marks_are_refused_even_of_no_claims(self):
        self.assertIs(refusal(fit, (), (0, 0)).__class__, BadThing)

    def test_claims_are_refused_ahead_of_marks(self):
        self.assertIs(refusal(fit, ((),), ()).__class__, BadClaims)
