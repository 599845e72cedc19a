import copy
import random
import unittest
from fractions import Fraction
from itertools import permutations

from crowdroads.turning import complementary_amounts
from drawn import values, written
from limits import within

GREAT = 10 ** 60 - 1


def rows_of(matrix):
    return [[written(thing) for thing in row] for row in matrix]


def gaps_of(matrix, offsets, amounts):
    return [offset + sum(thing * amount for thing, amount in zip(row, amounts)) for row, offset in zip(matrix, offsets)]


def drawn_matrix(draw, many, count, style):
    """Sums of squares of a few rows, and beside them what falls out of a sum of amount by amount by thing."""
    rows = [[style(draw) for place in range(many)] for unused in range(count)]
    matrix = [[sum(row[one] * row[two] for row in rows) for two in range(many)] for one in range(many)]
    for one in range(many):
        for two in range(one):
            thing = style(draw)
            matrix[one][two] += thing
            matrix[two][one] -= thing
    return matrix


def few(draw):
    return Fraction(draw.choice((-1, 0, 0, 0, 1)))


def parts(draw):
    return Fraction(draw.randint(-9, 9), draw.choice((1, 2, 3, 7)))


class ComplementaryAmountsTest(unittest.TestCase):
    """[13]: no gap and no amount is below nought, and one of both is nought."""

    def told(self, matrix, offsets):
        return within(10, lambda: complementary_amounts(rows_of(matrix), [written(thing) for thing in offsets]))

    def check_amounts(self, matrix, offsets, amounts):
        self.assertEqual(self.told(matrix, offsets), [written(amount) for amount in amounts])

    def check_complementary(self, matrix, offsets):
        told = self.told(matrix, offsets)
        self.assertEqual(len(told), len(offsets))
        amounts = values(told)
        self.assertEqual(told, [written(amount) for amount in amounts])
        for amount, gap in zip(amounts, gaps_of(matrix, offsets, amounts)):
            self.assertGreaterEqual(amount, 0)
            self.assertGreaterEqual(gap, 0)
            self.assertEqual(amount * gap, 0)

    def test_one_row(self):
        self.check_amounts([[1]], [-1], [1])
        self.check_amounts([[2]], [-3], [Fraction(3, 2)])
        self.check_amounts([[Fraction(2, 3)]], [Fraction(-5, 7)], [Fraction(15, 14)])
        self.check_amounts([[Fraction(1, GREAT)]], [-GREAT], [GREAT * GREAT])
        self.check_amounts([[GREAT]], [Fraction(-1, GREAT)], [Fraction(1, GREAT * GREAT)])

    def test_rows_by_themselves(self):
        self.check_amounts([[1, 0], [0, 1]], [-1, -2], [1, 2])
        self.check_amounts([[1, 0], [0, 1]], [-1, 2], [1, 0])
        self.check_amounts([[1, 0], [0, 1]], [0, -2], [0, 2])
        self.check_amounts([[2, 0, 0], [0, 3, 0], [0, 0, 5]], [-1, 1, -1], [Fraction(1, 2), 0, Fraction(1, 5)])

    def test_bottoms_of_rows_and_offsets(self):
        matrix = [[Fraction(1, 2), 0, 0], [0, Fraction(2, 3), 0], [0, 0, Fraction(5, 7)]]
        offsets = [Fraction(-1, 11), Fraction(-1, 13), Fraction(-3, 2)]
        self.check_amounts(matrix, offsets, [Fraction(2, 11), Fraction(3, 26), Fraction(21, 10)])

    def test_rows_that_hang_together(self):
        self.check_amounts([[2, 1], [1, 2]], [-5, -6], [Fraction(4, 3), Fraction(7, 3)])
        self.check_amounts([[2, 1], [1, 2]], [-1, 1], [Fraction(1, 2), 0])
        # One way of base 3 and slope 2, and a wish of 5: its time is 13.
        self.check_amounts([[2, -1], [1, 0]], [3, -5], [5, 13])

    def test_no_more_than_is_asked_where_a_time_is_nought(self):
        self.check_amounts([[0, -1], [1, 0]], [0, -5], [5, 0])

    def test_equal_quotients_that_could_go_round(self):
        # Where rows with equal quotients are taken by their places alone, some of these come round again for ever.
        matrix = [[1, 2, 0], [0, 1, 2], [2, 0, 1]]
        third = Fraction(1, 3)
        for order in permutations(range(3)):
            turned = [[matrix[one][two] for two in order] for one in order]
            for size in (1, 7):
                with self.subTest(order=order, size=size):
                    self.check_amounts(turned, [-size] * 3, [size * third] * 3)
                    grown = [[size * thing for thing in row] for row in turned]
                    self.check_amounts(grown, [-1] * 3, [third / size] * 3)

    def test_equal_quotients_up_to_the_last_ones(self):
        # Where the very last things of rows aren't looked at, none is found that could leave.
        for matrix, offsets in (
            ([[0, -2, 0], [2, 0, 1], [0, -1, 0]], [0, -2, 0]),
            ([[0, -2, 0], [2, 1, 1], [0, -1, 0]], [0, -5, 0]),
            ([[1, -3, 0], [1, 1, 1], [0, -1, 0]], [-2, -2, 0]),
            ([[0, -2, 0, 0], [2, 1, 0, 1], [0, 0, 0, 1], [0, -1, -1, 0]], [0, -4, -1, 0]),
        ):
            self.check_complementary(matrix, offsets)

    def test_several_that_could_go_round_beside_one_another(self):
        matrix = [[1, 2, 0], [0, 1, 2], [2, 0, 1]]
        draw = random.Random(201)
        for unused in range(60):
            order = draw.sample(range(9), 9)
            blocks = [[matrix[i % 3][j % 3] if i // 3 == j // 3 else 0 for j in range(9)] for i in range(9)]
            turned = [[blocks[one][two] for two in order] for one in order]
            self.check_amounts(turned, [-1] * 9, [Fraction(1, 3)] * 9)

    def test_drawn_matrices(self):
        for seed, style in ((202, few), (203, parts)):
            draw = random.Random(seed)
            for unused in range(150):
                many = draw.randint(1, 9)
                matrix = drawn_matrix(draw, many, draw.randint(0, many), style)
                # Offsets that some amounts lift to nought or above, and one of which is below it.
                amounts = [draw.choice((0, 1, 2, Fraction(1, 2))) for place in range(many)]
                offsets = [draw.choice((0, 0, 1)) - gap for gap in gaps_of(matrix, [0] * many, amounts)]
                if min(offsets) < 0:
                    self.check_complementary(matrix, offsets)

    def test_what_is_handed_over_stays(self):
        matrix = rows_of([[2, Fraction(1, 2)], [1, 2]])
        offsets = [(-5, 1), (-6, 7)]
        kept = copy.deepcopy((matrix, offsets))
        told = complementary_amounts(matrix, offsets)
        self.assertEqual((matrix, offsets), kept)
        self.assertEqual(complementary_amounts(matrix, offsets), told)


if __name__ == "__main__":
    unittest.main()
