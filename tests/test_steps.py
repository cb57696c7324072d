"""am_value: what a step is, when it is counted, and that 100,000 are the most."""

import unittest

from tests.asking import value_of

MOST = 100000


def ones(count):
    return "*".join(["1"] * count)


# Each use of hundred, thousand, myriad takes as many steps as its name tells, itself among them.
LONG = "".join([
    "let hundred = " + ones(50) + ";",
    "let thousand = -" + "*".join(["hundred"] * 9) + "*" + ones(45) + ";",
    "let myriad = " + "*".join(["thousand"] * 9 + ["hundred"] * 9) + "*" + ones(41) + ";",
])
COSTS = [("myriad", 10000), ("thousand", 1000), ("hundred", 100), ("1", 1)]


def of_steps(count):
    """A formula of so many steps behind LONG, worth 1 or -1."""
    parts = []
    left = count + 1
    for name, cost in COSTS:
        while left > cost:
            parts.append(name)
            left -= cost + 1
    return "-" * left + "*".join(parts)


class Most(unittest.TestCase):
    def stops(self, formula, measure="1", row=LONG):
        told = value_of(row, formula, measure)
        self.assertIn(told, (-62, (1, 1), (-1, 1)))
        return told == -62

    def test_one_to_either_side(self):
        self.assertFalse(self.stops(of_steps(MOST - 1)))
        self.assertFalse(self.stops(of_steps(MOST)))
        self.assertTrue(self.stops(of_steps(MOST + 1)))

    def test_in_the_second_one(self):
        self.assertFalse(self.stops("1", of_steps(MOST)))
        self.assertTrue(self.stops("1", of_steps(MOST + 1)))

    def test_each_of_the_two_has_its_own_count(self):
        self.assertFalse(self.stops(of_steps(MOST), of_steps(MOST)))
        self.assertTrue(self.stops(of_steps(MOST + 1), of_steps(1)))
        self.assertTrue(self.stops(of_steps(MOST), of_steps(MOST + 1)))

    def test_functions_that_call_one_another_twice_each_twenty_deep(self):
        row = "fn f0(x) = x + 1;"
        for k in range(1, 21):
            row += "fn f%d(x) = f%d(x) + f%d(x);" % (k, k - 1, k - 1)
        self.assertEqual(value_of(row, "f20(1)"), -62)
        self.assertEqual(value_of(row, "f20(0)"), -62)
        self.assertEqual(value_of(row, "f10(1)"), (2048, 1))

    def test_amounts_that_use_one_another_twice_each_twenty_deep(self):
        row = "let a0 = 1;"
        for k in range(1, 21):
            row += "let a%d = a%d + a%d;" % (k, k - 1, k - 1)
        self.assertEqual(value_of(row, "a20"), -62)
        # Each use of the one with the number k takes 4 * 2 ^ k - 2 steps.
        self.assertEqual(value_of(row, "a14 + a13 + a8"), (2 ** 14 + 2 ** 13 + 2 ** 8, 1))
        self.assertEqual(value_of(row, "a14 + a13 + a9"), -62)
        self.assertEqual(value_of(row, "a15"), -62)


class What(unittest.TestCase):
    ROW = LONG + "unit m; let one = 1; fn c() = 1; fn f(x) = 1; fn same(x) = x; fn six(p, q, r, s, t, u) = 1; "

    def check(self, formula, steps):
        """The formula, by which something of the steps that are left is multiplied, takes so many."""
        with self.subTest(formula=formula):
            for more, stops in ((-1, False), (0, True)):
                told = value_of(self.ROW, of_steps(MOST - steps + more) + "*(" + formula + ")")
                self.assertEqual(told == -62, stops, told)

    def test_numbers(self):
        self.check("7", 1)
        self.check("0.5", 1)
        self.check("0", 1)

    def test_parentheses_take_none(self):
        self.check("((7))", 1)

    def test_names(self):
        self.check("m / m", 3)
        self.check("one", 2)
        self.check("hundred", 100)

    def test_each_use_of_an_amount(self):
        self.check("one * one * one", 8)
        self.check("one + one", 5)

    def test_calls(self):
        self.check("c()", 2)
        self.check("f(1)", 3)
        self.check("six(1, 2, 3, 4, 5, 6)", 8)

    def test_parameters(self):
        self.check("same(1)", 3)

    def test_what_a_parameter_is_worth_is_worked_out_once(self):
        row = self.ROW + "fn twice(x) = x + x;"
        formula = "*twice(hundred)"
        # The call, what it is made with, then + and two names.
        self.assertNotEqual(value_of(row, of_steps(MOST - 1 - 104) + formula), -62)
        self.assertEqual(value_of(row, of_steps(MOST - 104) + formula), -62)

    def test_signs(self):
        self.check("1 + 1", 3)
        self.check("1 - 2", 3)
        self.check("1 * 1", 3)
        self.check("1 / 1", 3)
        self.check("1 + 1 - 1", 5)

    def test_minus_before_a_factor(self):
        self.check("-1", 2)
        self.check("---1", 4)
        self.check("1 - -1", 4)

    def test_powers_whatever_their_number(self):
        for power in ("1", "2", "9", "-1", "- 9"):
            self.check("1 ^ " + power, 2)

    def test_choices(self):
        self.check("if 1 < 2 then 1 else hundred", 4)
        self.check("if 2 < 1 then hundred else 1", 4)
        self.check("if one < 2 then -1 else 1", 6)
        self.check("if 1 < 2 then if 2 < 1 then 1 else 1 else 1", 7)


class When(unittest.TestCase):
    """A step is counted before anything in it is worked out: so it tells of too many before what stops within."""

    def check(self, formula, steps):
        """So many steps are counted before the first division by 0 in the formula is worked out."""
        row = LONG + "fn f(x, y) = 1; fn c() = 1 / 0 + 1; let bad = 1 / 0 + 1; fn g(x) = 1 / x; "
        with self.subTest(formula=formula):
            self.assertEqual(value_of(row, of_steps(MOST - 1 - steps) + "*(" + formula + ")"), -33)
            self.assertEqual(value_of(row, of_steps(MOST - steps) + "*(" + formula + ")"), -62)

    def test_signs(self):
        self.check("1 / 0 * 1", 4)
        self.check("1 / 0 / 1", 4)
        self.check("1 / 0 + 1", 4)
        self.check("1 / 0 - 1", 4)
        self.check("1 / 0 * 1 * 1 * 1", 6)
        self.check("1 / 0 * 1 + 1 - 1", 6)

    def test_what_comes_behind_is_not_counted(self):
        self.check("1 / 0 + hundred", 4)
        self.check("1 + 1 / 0 + 1 + 1", 7)
        self.check("f(1 / 0, hundred)", 4)

    def test_powers(self):
        self.check("0 ^ -1", 2)
        self.check("(1 / 0) ^ 2", 4)
        self.check("(0 ^ -2) ^ 3", 3)

    def test_minus_before_a_factor(self):
        self.check("-(1 / 0)", 4)
        self.check("--(1 / 0)", 5)

    def test_calls(self):
        self.check("f(1 / 0, 1)", 4)
        self.check("f(1, 1 / 0)", 5)
        self.check("f(f(1 / 0, 1), 1)", 5)
        self.check("c()", 5)
        self.check("g(0)", 5)

    def test_amounts(self):
        self.check("bad", 5)
        self.check("bad * 1", 6)

    def test_choices(self):
        self.check("if 1 / 0 < 1 then 1 else 1", 4)
        self.check("if 1 < 1 / 0 then 1 else 1", 5)
        self.check("if 1 < 2 then 1 / 0 else 1", 6)
        self.check("if 2 < 1 then 1 else 1 / 0", 6)
        self.check("if 1 / 0 + 1 < 1 then 1 else 1", 5)

    def test_before_a_fraction_that_is_too_large(self):
        formula = "1000000000 ^ 9 * 1"
        self.assertEqual(value_of(LONG, of_steps(MOST - 4) + "*(" + formula + ")"), -75)
        self.assertEqual(value_of(LONG, of_steps(MOST - 3) + "*(" + formula + ")"), -62)


if __name__ == "__main__":
    unittest.main()
