import copy
import unittest
from fractions import Fraction

from crowdroads.errors import NoNumber
from crowdroads.fractions import (
    fraction, is_fraction, is_less, part_of, product_of, rest_of, sum_of,
)
from samples import no_fractions, no_wholes, refusal_of

GREAT = 10 ** 60 - 1
PRIME = 2 ** 89 - 1
WHOLES = (
    0, 1, -1, 2, -2, 3, 4, -4, 6, -6, 7, 12, 30, 97, -360,
    PRIME, -PRIME, 6 * PRIME, GREAT, -GREAT, GREAT - 1, 10 ** 59, -(10 ** 59), 2 ** 199,
)


def written(value):
    """Python's own exact fraction, as it is to be written here."""
    return (value.numerator, value.denominator)


def some_fractions():
    tops = (0, 1, -1, 2, -3, 5, 12, -35, PRIME, -GREAT, 10 ** 59)
    bottoms = (1, 2, 3, 12, 49, PRIME, GREAT, 10 ** 59)
    return sorted({written(Fraction(top, bottom)) for top in tops for bottom in bottoms})


class FractionTest(unittest.TestCase):
    """[4]: any whole number parted by any other one but 0."""

    def test_the_ones_that_the_document_names(self):
        self.assertEqual(fraction(6, -4), (-3, 2))
        self.assertEqual(fraction(0, 1), (0, 1))

    def test_signs(self):
        self.assertEqual(fraction(3, 4), (3, 4))
        self.assertEqual(fraction(-3, 4), (-3, 4))
        self.assertEqual(fraction(3, -4), (-3, 4))
        self.assertEqual(fraction(-3, -4), (3, 4))

    def test_nought_above(self):
        for bottom in (1, -1, 2, -7, 30, GREAT, -GREAT):
            self.assertEqual(fraction(0, bottom), (0, 1))

    def test_common_divisors(self):
        self.assertEqual(fraction(360, 84), (30, 7))
        self.assertEqual(fraction(84, 360), (7, 30))
        self.assertEqual(fraction(5, 5), (1, 1))
        self.assertEqual(fraction(-5, 5), (-1, 1))
        self.assertEqual(fraction(12, 4), (3, 1))
        self.assertEqual(fraction(6 * PRIME, -4 * PRIME), (-3, 2))

    def test_all_pairs_are_as_python_reckons_them(self):
        for top in WHOLES:
            for bottom in WHOLES:
                if bottom != 0:
                    told = fraction(top, bottom)
                    self.assertEqual(told, written(Fraction(top, bottom)))
                    self.assertEqual([type(thing) for thing in (told, told[0], told[1])], [tuple, int, int])

    def test_a_bottom_of_nought_is_refused(self):
        for top in WHOLES:
            self.assertIs(refusal_of(lambda: fraction(top, 0)), NoNumber)

    def test_what_is_no_whole_number_is_refused(self):
        for thing in no_wholes():
            with self.subTest(thing=repr(thing)):
                self.assertIs(refusal_of(lambda: fraction(thing, 1)), NoNumber)
                self.assertIs(refusal_of(lambda: fraction(1, thing)), NoNumber)
                self.assertIs(refusal_of(lambda: fraction(thing, 0)), NoNumber)
                self.assertIs(refusal_of(lambda: fraction(thing, thing)), NoNumber)

    def test_a_list_that_is_refused_stays_as_it_was(self):
        thing = [1, [2]]
        self.assertIs(refusal_of(lambda: fraction(thing, thing)), NoNumber)
        self.assertEqual(thing, [1, [2]])


class IsFractionTest(unittest.TestCase):
    """[4]: what is a fraction, and that each amount is written in one way alone."""

    def test_fractions(self):
        for thing in some_fractions() + [(0, 1), (1, 1), (-1, 1), (-3, 2), (2, 3), (GREAT, 1)]:
            with self.subTest(thing=thing):
                self.assertIs(is_fraction(thing), True)

    def test_anything_else(self):
        for thing in no_fractions():
            with self.subTest(thing=repr(thing)):
                self.assertIs(is_fraction(thing), False)

    def test_just_one_writing_of_each_small_amount(self):
        for top in range(-12, 13):
            for bottom in range(-12, 13):
                right = bottom > 0 and written(Fraction(top, bottom)) == (top, bottom)
                self.assertIs(is_fraction((top, bottom)), right)

    def test_what_fraction_gives_is_one(self):
        for top in WHOLES:
            for bottom in WHOLES:
                if bottom != 0:
                    self.assertIs(is_fraction(fraction(top, bottom)), True)

    def test_a_list_that_is_asked_about_stays_as_it_was(self):
        thing = [[2], 4]
        is_fraction(thing)
        is_fraction((thing, thing))
        self.assertEqual(thing, [[2], 4])


class ReckoningTest(unittest.TestCase):
    """[4]: added, taken from one another, multiplied, parted, told to be less or not."""

    def check_pairs(self, ours, theirs):
        for one in some_fractions():
            for other in some_fractions():
                told = ours(one, other)
                self.assertEqual(told, written(theirs(Fraction(*one), Fraction(*other))))
                self.assertIs(is_fraction(told), True)

    def test_ordinary_sums(self):
        self.assertEqual(sum_of((1, 2), (1, 3)), (5, 6))
        self.assertEqual(sum_of((1, 6), (1, 3)), (1, 2))
        self.assertEqual(sum_of((1, 2), (-1, 2)), (0, 1))
        self.assertEqual(sum_of((0, 1), (-3, 2)), (-3, 2))

    def test_ordinary_rests(self):
        self.assertEqual(rest_of((1, 2), (1, 3)), (1, 6))
        self.assertEqual(rest_of((1, 3), (1, 2)), (-1, 6))
        self.assertEqual(rest_of((5, 7), (5, 7)), (0, 1))
        self.assertEqual(rest_of((0, 1), (-3, 2)), (3, 2))

    def test_ordinary_products(self):
        self.assertEqual(product_of((2, 3), (3, 4)), (1, 2))
        self.assertEqual(product_of((-2, 3), (3, 2)), (-1, 1))
        self.assertEqual(product_of((-2, 3), (-1, 2)), (1, 3))
        self.assertEqual(product_of((0, 1), (-7, 9)), (0, 1))

    def test_ordinary_parts(self):
        self.assertEqual(part_of((1, 2), (3, 4)), (2, 3))
        self.assertEqual(part_of((1, 2), (-3, 4)), (-2, 3))
        self.assertEqual(part_of((-1, 2), (-3, 4)), (2, 3))
        self.assertEqual(part_of((0, 1), (-3, 4)), (0, 1))
        self.assertEqual(part_of((-7, 9), (-7, 9)), (1, 1))

    def test_sums_of_all_pairs(self):
        self.check_pairs(sum_of, lambda one, other: one + other)

    def test_rests_of_all_pairs(self):
        self.check_pairs(rest_of, lambda one, other: one - other)

    def test_products_of_all_pairs(self):
        self.check_pairs(product_of, lambda one, other: one * other)

    def test_parts_of_all_pairs(self):
        for one in some_fractions():
            for other in some_fractions():
                if other != (0, 1):
                    told = part_of(one, other)
                    self.assertEqual(told, written(Fraction(*one) / Fraction(*other)))
                    self.assertIs(is_fraction(told), True)

    def test_nothing_is_parted_by_nought(self):
        for one in some_fractions():
            self.assertIs(refusal_of(lambda: part_of(one, (0, 1))), NoNumber)

    def test_less_or_not(self):
        self.assertIs(is_less((1, 3), (1, 2)), True)
        self.assertIs(is_less((1, 2), (1, 3)), False)
        self.assertIs(is_less((-1, 2), (-1, 3)), True)
        self.assertIs(is_less((-1, 2), (0, 1)), True)
        self.assertIs(is_less((0, 1), (-1, 2)), False)
        self.assertIs(is_less((GREAT - 1, GREAT), (1, 1)), True)
        self.assertIs(is_less((1, 1), (GREAT - 1, GREAT)), False)

    def test_less_of_all_pairs_and_of_one_and_itself(self):
        for one in some_fractions():
            for other in some_fractions():
                self.assertIs(is_less(one, other), Fraction(*one) < Fraction(*other))
            self.assertIs(is_less(one, one), False)

    def test_great_answers_can_be_handed_over_again(self):
        told = (1, 3)
        value = Fraction(1, 3)
        for unused in range(6):
            told = sum_of(product_of(told, told), (1, 7))
            value = value * value + Fraction(1, 7)
        self.assertEqual(told, written(value))


class LikeQuestionsTest(unittest.TestCase):
    """[2]: two like questions have equal answers, and what is given stays as it was."""

    def test_asked_twice(self):
        for ours in (sum_of, rest_of, product_of, part_of, is_less):
            one = (-35, 12)
            other = (GREAT, PRIME)
            kept = copy.deepcopy((one, other))
            self.assertEqual(ours(one, other), ours(one, other))
            self.assertEqual((one, other), kept)
        self.assertEqual(fraction(6, -4), fraction(6, -4))


if __name__ == "__main__":
    unittest.main()
