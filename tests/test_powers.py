"""Powers in balance: the filling that solves, that it is the most general one, and its refusals."""

import math
import random
import unittest

from unitsheet.powers import filled_in, solve
from unitsheet.refusals import NotRight, NotTogether, TooFar


def product(marks, places):
    """A product of the first marks' and the first places' exponents."""
    return list(marks) + [0] * (8 - len(marks)) + list(places) + [0] * (24 - len(places))


def filling_of(equations, count):
    """What each place is filled with, marks and places apart, without the noughts behind."""
    return [(short(out[:8]), short(out[8:])) for out in solve(equations, count)]


def short(exponents):
    exponents = list(exponents)
    while exponents and exponents[-1] == 0:
        exponents.pop()
    return exponents


class Corners(unittest.TestCase):
    def test_no_equation(self):
        self.assertEqual(filling_of([], 2), [([], [1]), ([], [0, 1])])
        self.assertEqual(filling_of([], 0), [])
        self.assertEqual(len(solve([], 24)), 24)

    def test_no_place(self):
        self.assertEqual(filling_of([product([], [])], 0), [])
        self.assertRaises(NotTogether, solve, [product([1], [])], 0)
        self.assertRaises(NotTogether, solve, [product([0, -2], [])], 3)

    def test_one_place(self):
        self.assertEqual(filling_of([product([], [1])], 1), [([], [])])
        self.assertEqual(filling_of([product([], [-5])], 1), [([], [])])
        self.assertEqual(filling_of([product([-3], [1])], 1), [([3], [])])
        self.assertEqual(filling_of([product([4, -6], [2])], 1), [([-2, 3], [])])

    def test_twice_a_place_and_a_mark(self):
        self.assertRaises(NotTogether, solve, [product([1], [2])], 1)
        self.assertRaises(NotTogether, solve, [product([-1], [2])], 1)
        self.assertRaises(NotTogether, solve, [product([2, 3], [2])], 1)

    def test_two_p_and_three_q(self):
        self.assertEqual(filling_of([product([], [2, 3])], 2), [([], [3]), ([], [-2])])
        self.assertEqual(filling_of([product([], [2, -3])], 2), [([], [-3]), ([], [-2])])
        self.assertEqual(filling_of([product([], [3, 2])], 2), [([], [0, -2]), ([], [0, 3])])

    def test_six_ten_fifteen(self):
        for marks in ([], [1], [5, -7]):
            with self.subTest(marks=marks):
                equation = product(marks, [6, 10, 15])
                self.assertEqual(filled_in(equation, solve([equation], 3)), product([], []))
        out = filling_of([product([], [6, 10, 15])], 3)
        self.assertEqual(out, [([], [5, 0, -5]), ([], [0, 0, -3]), ([], [-2, 0, 4])])

    def test_the_same_equation_with_all_signs_turned(self):
        for places in ([4, 6], [3, -5, 7], [2, -2], [9, 12, 20, -31]):
            with self.subTest(places=places):
                one = product([1, -2], places + [1])
                other = [-exponent for exponent in one]
                self.assertEqual(solve([one], 5), solve([other], 5))
                self.assertEqual(solve([one, other], 5), solve([one], 5))

    def test_a_place_that_is_in_no_equation(self):
        self.assertEqual(filling_of([product([], [1, 0, -1])], 3), [([], [0, 0, 1]), ([], [0, 1]), ([], [0, 0, 1])])

    def test_of_several_the_first_one_goes(self):
        self.assertEqual(filling_of([product([], [1, -1])], 2), [([], [0, 1]), ([], [0, 1])])
        self.assertEqual(filling_of([product([], [-1, 1])], 2), [([], [0, 1]), ([], [0, 1])])
        self.assertEqual(filling_of([product([], [2, 1])], 2), [([], [1]), ([], [-2])])


class Bounds(unittest.TestCase):
    def test_how_many_equations(self):
        nothing = product([], [])
        self.assertEqual(len(solve([nothing] * 256, 3)), 3)
        self.assertRaises(NotRight, solve, [nothing] * 257, 3)

    def test_how_many_places(self):
        self.assertRaises(NotRight, solve, [], 25)

    def test_exponents_of_an_equation(self):
        self.assertEqual(filling_of([product([1048576], [1])], 1), [([-1048576], [])])
        self.assertEqual(filling_of([product([-1048576], [1])], 1), [([1048576], [])])
        self.assertEqual(filling_of([product([], [-1048576])], 1), [([], [])])
        for beyond in (1048577, -1048577):
            self.assertRaises(NotRight, solve, [product([beyond], [1])], 1)
            self.assertRaises(NotRight, solve, [product([], [beyond])], 1)

    def test_a_place_from_n_on(self):
        self.assertRaises(NotRight, solve, [product([], [1, 1])], 1)
        self.assertRaises(NotRight, solve, [product([], [0] * 23 + [1])], 23)
        self.assertEqual(len(solve([product([], [0] * 23 + [1])], 24)), 24)

    def test_bounds_come_before_what_none_solves(self):
        self.assertRaises(NotRight, solve, [product([1], []), product([1048577], [])], 0)

    def test_the_filling_at_its_bound(self):
        equations = [product([], [1, -1048576]), product([], [0, 1, -1024])]
        self.assertEqual(filling_of(equations, 3)[0], ([], [0, 0, 1 << 30]))
        equations = [product([], [1, 1048576]), product([], [0, 1, -1024])]
        self.assertEqual(filling_of(equations, 3)[0], ([], [0, 0, -(1 << 30)]))
        self.assertRaises(TooFar, solve, [product([], [1, -1048576]), product([], [0, 1, -1025])], 3)
        self.assertRaises(TooFar, solve, [product([], [1, 1048576]), product([], [0, 1, -1025])], 3)

    def test_a_mark_in_the_filling_beyond_its_bound(self):
        self.assertRaises(TooFar, solve, [product([], [1, -1048576]), product([1025], [0, 1])], 2)
        self.assertEqual(filling_of([product([], [1, -1048576]), product([1024], [0, 1])], 2)[0], ([-(1 << 30)], []))

    def test_the_rest_at_its_bound(self):
        first = product([], [1, -1048576])
        self.assertEqual(filling_of([first, product([], [1024])], 2), [([], []), ([], [])])
        self.assertRaises(TooFar, solve, [first, product([], [1025])], 2)
        self.assertRaises(TooFar, solve, [first, product([], [-1025])], 2)

    def test_equations_one_after_the_other(self):
        far = [product([], [1, -1048576]), product([], [1025])]
        self.assertRaises(TooFar, solve, far + [product([1], [])], 2)
        self.assertRaises(NotTogether, solve, [product([1], [])] + far, 2)


def can_be_solved(equations, count):
    """By minors: whole numbers solve A x = b if A and A with b have one rank and one greatest common minor."""
    matrix = [equation[8:8 + count] for equation in equations]
    for mark in range(8):
        column = [[-equation[mark]] for equation in equations]
        wider = [row + more for row, more in zip(matrix, column)]
        if rank_and_minor(matrix) != rank_and_minor(wider):
            return False
    return True


def rank_and_minor(matrix):
    """The rank, and the product of the diagonal once whole row and column steps have made all else 0."""
    rows = [list(row) for row in matrix]
    rank = 0
    minor = 1
    while any(any(row[rank:]) for row in rows[rank:]):
        spots = [
            (abs(rows[i][j]), i, j) for i in range(rank, len(rows)) for j in range(rank, len(rows[0])) if rows[i][j]]
        best = min(spots)
        swap(rows, rank, best[1], best[2])
        if not reduced(rows, rank):
            continue
        minor *= abs(rows[rank][rank])
        rank += 1
    return rank, minor


def swap(rows, at, i, j):
    rows[at], rows[i] = rows[i], rows[at]
    for row in rows:
        row[at], row[j] = row[j], row[at]


def reduced(rows, at):
    """One round of row and column steps; whether all beside the diagonal has become 0."""
    pivot = rows[at][at]
    for i in range(at + 1, len(rows)):
        times = rows[i][at] // pivot
        rows[i] = [a - times * b for a, b in zip(rows[i], rows[at])]
    for j in range(at + 1, len(rows[0])):
        times = rows[at][j] // pivot
        for row in rows:
            row[j] -= times * row[at]
    return not any(rows[i][at] for i in range(at + 1, len(rows))) and not any(rows[at][at + 1:])


class Random(unittest.TestCase):
    """Many small equations; the source is always the same."""

    def setUp(self):
        self.source = random.Random(20261116)

    def some(self):
        count = self.source.randint(1, 5)
        equations = []
        for number in range(self.source.randint(1, 4)):
            marks = [self.source.choice([0, 0, 0, 1, -2, 6]) for mark in range(self.source.randint(0, 2))]
            equations.append(product(marks, [self.source.randint(-6, 6) for place in range(count)]))
        return equations, count

    def test_it_solves_just_where_it_can_be_solved(self):
        solved = 0
        for number in range(1500):
            equations, count = self.some()
            try:
                out = solve(equations, count)
            except NotTogether:
                self.assertFalse(can_be_solved(equations, count), (equations, count))
                continue
            solved += 1
            self.assertTrue(can_be_solved(equations, count), (equations, count))
            for equation in equations:
                self.assertEqual(filled_in(equation, out), product([], []))
        self.assertTrue(300 < solved < 1400, solved)

    def test_it_is_the_most_general(self):
        """The places that are left are as many as may be chosen freely, and no common divisor is lost."""
        for number in range(500):
            equations, count = self.some()
            equations = [product([], equation[8:8 + count]) for equation in equations]
            out = solve(equations, count)
            matrix = [equation[8:8 + count] for equation in equations]
            left = [row for row in zip(*[fill[8:8 + count] for fill in out]) if any(row)]
            self.assertEqual(len(left), count - rank_and_minor(matrix)[0])
            if left:
                self.assertEqual(rank_and_minor(left), (len(left), 1))

    def test_told_again_changes_nothing(self):
        for number in range(300):
            equations, count = self.some()
            try:
                out = solve(equations, count)
            except NotTogether:
                continue
            self.assertEqual(solve(equations + equations, count), out)
            together = [sum(exponents) for exponents in zip(*equations)]
            self.assertEqual(solve(equations + [together], count), out)

    def test_a_common_divisor(self):
        for number in range(300):
            a = self.source.randint(1, 1048576)
            b = self.source.randint(1, 1048576)
            divisor = math.gcd(a, b)
            out = filling_of([product([], [a, -b])], 2)
            self.assertEqual(sorted(abs(value) for fill in out for value in fill[1] if value),
                             sorted([a // divisor, b // divisor]))


if __name__ == "__main__":
    unittest.main()
