"""am_add: what goes together, and the bounds that stand about it."""

import unittest

from tests.asking import add, added, ask, repeated_power
from unitsheet.sheets import empty_sheet, longer_sheet

UNITS = "unit m; unit s; "


def kind_of(text, name):
    """An item's kind: the parameters' products, the product of what comes, how many places; products as dicts."""
    kind = longer_sheet(empty_sheet(), list(text.encode("ascii"))).kinds[name]
    return [shown(product) for product in kind.of], shown(kind.comes), kind.places


def shown(product):
    """The exponents that are not 0: marks as 0 to 7, places as "p0" to "p23"."""
    return {index if index < 8 else "p%d" % (index - 8): value for index, value in enumerate(product) if value}


class Together(unittest.TestCase):
    GOOD = [
        "let km = 1000 * m; let x = 5 * km + m;",
        "let v = m / s; let a = v / s + m / s ^ 2;",
        "let x = m + 0; let y = 0 + s; let w = 0 + 1;",
        "let x = m + 0.0; let y = s - 00.00;",
        "let z = 0; let x = z + m; let y = z + s;",
        "let z = 0 * m; let x = z + s;",
        "let x = m ^ -1 * m + 1;",
        "let x = -m + m; let y = --s - s;",
        "let x = m * (s + s) - s * m;",
        "let x = if m < 2 * m then s else 3 * s;",
        "let x = if 0 < m then 0 else s; let y = x + s;",
        "fn sq(x) = x * x; let a = sq(m) + m ^ 2; let b = sq(s) + s * s; let c = sq(2) + 1;",
        "fn f(x) = x + 0; let a = f(m) + m; let b = f(s) + s;",
        "fn h(x, y) = x ^ 2 + y ^ 3; let a = h(m ^ 3, m ^ 2) + m ^ 6; let b = h(8, 4) + 1;",
        "fn k(x) = x * x + 1; let a = k(2) + 1;",
        "fn id(x) = x; let a = id(id(id(m))) + m;",
        "fn f(x) = x * 2; let a = f(f(m)) + f(m);",
        "fn c(x, y) = 5; let a = c(m, s) + 1;",
        "fn c() = m; let a = c() + m;",
        "fn max(x, y) = if x < y then y else x; let a = max(m, 2 * m) + m; let b = max(s, 0) + s;",
        "fn root(x, y) = if x < y ^ 2 then x else y * y; let a = root(m ^ 2, m) + m * m;",
        "fn f(x) = if x < 1 then m else 2 * m; let a = f(2) + m;",
    ]
    APART = [
        "let x = m + s;", "let x = m - 1;", "let x = 1 + m;", "let x = m + m ^ 2;", "let x = m * s + m / s;",
        "let x = if m < s then 1 else 2;", "let x = if 1 < 2 then m else s;", "let x = if 0 < 0 then 1 else m;",
        "let x = 0 + m + s;", "let x = m + 0 + s;", "let x = 0 ^ 2 + m;", "let x = 0 * 0 ^ -1 + 0 + m + 1;",
        "let z = 0 ^ 2; let x = z + m;", "let z = m + 0; let x = z + s;",
        "fn sq(x) = x * x; let a = sq(m) + m;", "fn sq(x) = x * x; let a = sq(0) + m;",
        "fn f(x) = x + m; let a = f(s);", "fn f(x) = x + m; let a = f(1);",
        "fn h(x, y) = x ^ 2 + y ^ 3; let a = h(m, m);", "fn h(x, y) = x ^ 2 + y ^ 3; let a = h(m ^ 2, 0);",
        "fn k(x) = x * x + 1; let a = k(m);", "fn k(x) = x * x + m;", "fn k(x) = x * x + m * s;",
        "fn f(x, y) = x + y; let a = f(m, s);", "fn f(x) = x * m; let a = f(s) + s;",
        "fn f(x) = if x < m then 1 else 2; let a = f(s);", "fn f(x) = if x < x * m then 1 else 2;",
        "fn f(x) = x + x ^ 2 + m;", "fn id(x) = x; let a = id(id(m)) + s;", "let x = 0.1 + m;",
        "let x = 0.000000000001 + m;", "fn c() = m; let a = c() + s;",
    ]

    def test_what_goes_together(self):
        for row in self.GOOD:
            with self.subTest(row=row):
                self.assertEqual(added(UNITS + row), 2 + row.count(";"))

    def test_what_does_not(self):
        for row in self.APART:
            with self.subTest(row=row):
                self.assertEqual(added(UNITS + row), -61)

    def test_the_same_with_each_item_in_a_row_of_its_own(self):
        for row in self.GOOD + self.APART:
            with self.subTest(row=row):
                rows = [item + ";" for item in (UNITS + row).split(";")[:-1]]
                self.assertEqual(added(*rows), added(UNITS + row))

    def test_each_of_eight_units_is_its_own(self):
        units = "".join(["unit u%d; " % k for k in range(8)])
        for one in range(8):
            for other in range(8):
                with self.subTest(one=one, other=other):
                    row = "let x = u%d + u%d;" % (one, other)
                    self.assertEqual(added(units + row), 9 if one == other else -61)

    def test_units_of_later_rows_are_their_own(self):
        self.assertEqual(ask(*[add(row) for row in ("unit a;", "let x = a;", "unit b;", "let y = x + b;")])[3], -61)
        self.assertEqual(added("unit a;", "let x = a;", "unit b;", "let y = b; let w = y + b; let v = x + a;"), 6)


class Corners(unittest.TestCase):
    def test_fractions(self):
        self.assertEqual(added("let a = 1 / 3 + 1 / 6; let b = 0.1 + 0.2; let c = a + b;"), 3)

    def test_what_would_divide_by_nothing_goes_together(self):
        self.assertEqual(added("unit m; let a = if 0 < 1 then m else m / 0; let b = 1 / 0; let c = 0 ^ -1;"), 4)

    def test_an_amount_that_is_used_a_hundred_times(self):
        self.assertEqual(added("unit m; let a = 3 * m; let b = " + "a+" * 99 + "a;"), 3)
        self.assertEqual(added("unit m; let a = 3 * m; let b = " + "a*" * 99 + "a; let c = b + m;"), -61)

    def test_functions_that_call_one_another_twice_each_twenty_deep(self):
        rows = ["unit m;", "fn f0(x) = x + m;"]
        for k in range(1, 21):
            rows.append("fn f%d(x) = f%d(x) + f%d(x);" % (k, k - 1, k - 1))
        self.assertEqual(added("".join(rows) + "let y = f20(m);"), 23)
        self.assertEqual(added(*rows, "let y = f20(1);"), -61)

    def test_a_name_that_a_sheet_may_have_anyway(self):
        self.assertEqual(added("let x = 1; let y = x; let let_ = y;"), 3)


class KindsFound(unittest.TestCase):
    def test_the_corners(self):
        self.assertEqual(kind_of("let z = 0;", "z"), ([], {"p0": 1}, 1))
        self.assertEqual(kind_of("let z = 0.0;", "z"), ([], {"p0": 1}, 1))
        self.assertEqual(kind_of("let z = 0.1;", "z"), ([], {}, 0))
        self.assertEqual(kind_of("fn f(x) = x + 0;", "f"), ([{"p0": 1}], {"p0": 1}, 1))
        self.assertEqual(kind_of("fn sq(x) = x * x;", "sq"), ([{"p0": 1}], {"p0": 2}, 1))
        self.assertEqual(kind_of("fn h(x, y) = x ^ 2 + y ^ 3;", "h"), ([{"p0": -3}, {"p0": -2}], {"p0": -6}, 1))
        self.assertEqual(kind_of("fn k(x) = x * x + 1;", "k"), ([{}], {}, 0))
        self.assertEqual(kind_of("fn c(x, y) = y;", "c"), ([{"p0": 1}, {"p1": 1}], {"p1": 1}, 2))
        self.assertEqual(kind_of("fn inv(x) = x ^ -1;", "inv"), ([{"p0": 1}], {"p0": -1}, 1))

    def test_units_and_amounts(self):
        self.assertEqual(kind_of(UNITS, "s"), ([], {1: 1}, 0))
        self.assertEqual(kind_of(UNITS + "let v = 3 * m / s ^ 2;", "v"), ([], {0: 1, 1: -2}, 0))

    def test_a_function_of_its_own_result(self):
        row = "fn sq(x) = x * x; fn f(y) = sq(sq(y));"
        self.assertEqual(kind_of(row, "f"), ([{"p0": 1}], {"p0": 4}, 1))

    def test_places_are_numbered_as_they_come_first(self):
        row = "fn f(x, y) = if 0 < 0 then 0 * y else x * y * 0;"
        self.assertEqual(kind_of(row, "f"), ([{"p0": 1, "p1": -1}, {"p2": 1}], {"p0": 1, "p2": 1}, 3))

    def test_places_that_are_not_left_are_not_counted(self):
        self.assertEqual(kind_of("let x = if 0 < 0 then 1 else 2;", "x"), ([], {}, 0))
        self.assertEqual(kind_of("let x = if 0 < 0 then 1 else 2 * 0;", "x"), ([], {}, 0))


class Places(unittest.TestCase):
    def test_zeros(self):
        for count, answer in ((23, 1), (24, 1), (25, -28), (26, -28)):
            with self.subTest(count=count):
                self.assertEqual(added("let z = " + "0*" * (count - 1) + "0;"), answer)
                self.assertEqual(added("let z = " + "0+" * (count - 1) + "0;"), answer)

    def test_other_numbers_have_none(self):
        self.assertEqual(added("unit m; let z = " + "0*" * 24 + "1*m*2.0*0.1;"), 2)

    def test_parameters(self):
        self.assertEqual(added("fn f(a, b, c, d, e, g) = " + "0*" * 17 + "0;"), 1)
        self.assertEqual(added("fn f(a, b, c, d, e, g) = " + "0*" * 18 + "0;"), -28)
        self.assertEqual(added("fn f(a, b, c, d, e, g) = " + "0*" * 17 + "0*a*b*a*g;"), 1)

    def test_amounts(self):
        row = "let z = 0*0*0*0*0*0*0*0; "
        self.assertEqual(added(row + "let y = z*z*z;"), 2)
        self.assertEqual(added(row + "let y = z*z*z*0;"), -28)
        self.assertEqual(added(row + "let y = z*z*z*z;"), -28)
        self.assertEqual(added(row + "let y = z*z*z*1;"), 2)

    def test_calls(self):
        row = "fn f(a, b, c, d, e, g) = a; "
        self.assertEqual(added(row + "let y = f(1,1,1,1,1,1)*f(1,1,1,1,1,1)*f(1,1,1,1,1,1)*f(1,1,1,1,1,1);"), 2)
        self.assertEqual(added(row + "let y = f(1,1,1,1,1,1)*f(1,1,1,1,1,1)*f(1,1,1,1,1,1)*f(1,1,1,1,1,1)*0;"), -28)
        self.assertEqual(added(row + "let y = f(0,0,0,0,0,0)*f(0,0,0,0,0,0);"), 2)
        self.assertEqual(added(row + "let y = f(0,0,0,0,0,0)*f(0,0,0,0,0,0)*0;"), -28)

    def test_only_places_that_are_left_come_anew(self):
        row = "fn k(x) = x * x + 1; "
        self.assertEqual(added(row + "let y = " + "k(2)*" * 60 + "1;"), 2)
        row = "let o = 0 + 0 + 0 + 1; "
        self.assertEqual(added(row + "let y = " + "o*" * 100 + "1;"), 2)
        row = "let o = 0 + 0 + 0 + 0; "
        self.assertEqual(added(row + "let y = " + "o*" * 23 + "o;"), 2)
        self.assertEqual(added(row + "let y = " + "o*" * 24 + "o;"), -28)

    def test_each_item_begins_anew(self):
        row = "let z = " + "0*" * 23 + "0;"
        self.assertEqual(added(row + row.replace("z", "y")), 2)


# Eight ten times is 2^30; what is raised once more is beyond.
AT_BOUND = repeated_power("m", [8] * 10)
AT_LOWER_BOUND = repeated_power("m", [-8] + [8] * 9)
EQUATION_BOUND = repeated_power("m", [8] * 6 + [4])


class Exponents(unittest.TestCase):
    def check(self, formula, answer):
        with self.subTest(formula=formula):
            self.assertEqual(added("unit m; let x = " + formula + ";"), answer)

    def test_power(self):
        self.check(AT_BOUND, 2)
        self.check("(" + AT_BOUND + ")^-1", 2)
        self.check("(" + AT_BOUND + ")^1", 2)
        self.check("(" + AT_BOUND + ")^2", -75)
        self.check("(" + AT_BOUND + ")^-2", -75)
        self.check(repeated_power("m", [9] * 9), 2)
        self.check(repeated_power("m", [9] * 10), -75)

    def test_product(self):
        self.check(AT_BOUND + "*m", -75)
        self.check("m*" + AT_BOUND, -75)
        self.check(AT_LOWER_BOUND + "*m", 2)
        self.check(AT_LOWER_BOUND + "*m^-1", -75)
        self.check(AT_BOUND + "*m^-1*m", 2)

    def test_quotient(self):
        self.check(AT_BOUND + "/m", 2)
        self.check(AT_BOUND + "/m^-1", -75)
        self.check(AT_LOWER_BOUND, 2)
        self.check(AT_LOWER_BOUND + "/m", -75)
        self.check("m/" + AT_LOWER_BOUND, -75)
        self.check(AT_BOUND + "/" + AT_BOUND, 2)
        self.check(AT_BOUND + "/" + AT_LOWER_BOUND, -75)

    def test_what_lies_beyond_on_the_way_is_refused(self):
        self.check(AT_BOUND + "*m/m", -75)
        self.check("((" + AT_BOUND + ")*m)^1/m^9", -75)

    def test_of_a_place(self):
        self.assertEqual(added("fn f(m) = " + AT_BOUND + ";"), 1)
        self.assertEqual(added("fn f(m) = " + AT_BOUND + "*m;"), -75)
        self.assertEqual(added("let z = " + repeated_power("0", [9] * 10) + ";"), -75)

    def test_of_what_is_told_of_a_call(self):
        row = "unit m; fn f(x) = " + repeated_power("x", [8] * 10) + ";"
        self.assertEqual(added(row, "let y = f(m);"), 3)
        self.assertEqual(added(row, "let y = f(m ^ -1);"), 3)
        self.assertEqual(added(row, "let y = f(m ^ 2);"), -75)
        self.assertEqual(added(row, "let y = f(m ^ -2);"), -75)

    def test_of_what_is_told(self):
        made = "(x + " + repeated_power("y", [8] * 6 + [4]) + ")"
        self.assertEqual(added("fn f(x, y) = " + repeated_power(made, [8] * 3 + [2]) + ";"), 1)
        self.assertEqual(added("fn f(x, y) = " + repeated_power(made, [-8] + [8] * 2 + [2]) + ";"), 1)
        self.assertEqual(added("fn f(x, y) = " + repeated_power(made, [8] * 3 + [2]) + "*x;"), -75)
        self.assertEqual(added("fn f(x, y) = " + repeated_power(made, [8] * 3 + [3]) + ";"), -75)
        self.assertEqual(added("fn f(x, y) = " + repeated_power(made, [-8] + [8] * 2 + [3]) + ";"), -75)


class Equations(unittest.TestCase):
    def test_how_many(self):
        for count, answer in ((255, 1), (256, 1), (257, -28)):
            with self.subTest(count=count):
                self.assertEqual(added("let x = " + "1+" * count + "1;"), answer)
                self.assertEqual(added("let x = " + "1-" * count + "1;"), answer)

    def test_if_has_two_and_a_call_as_many_as_parameters(self):
        choice = "(if 1 < 2 then 3 else 4)"
        self.assertEqual(added("let x = " + "1+" * 254 + choice + ";"), 1)
        self.assertEqual(added("let x = " + "1+" * 255 + choice + ";"), -28)
        self.assertEqual(added("let x = " + choice + "+1" * 254 + ";"), 1)
        self.assertEqual(added("let x = " + choice + "+1" * 255 + ";"), -28)
        row = "fn f(a, b, c) = if a * b * c < 1 then 1 else 1; let y = "
        self.assertEqual(added(row + "1+" * 252 + "f(1,1,1)+1;"), 2)
        self.assertEqual(added(row + "1+" * 253 + "f(1,1,1)+1;"), -28)

    def test_each_item_begins_anew(self):
        row = "let x = " + "1+" * 256 + "1;"
        self.assertEqual(added(row + row.replace("x", "y")), 2)

    def test_exponents_at_the_bound(self):
        self.assertEqual(added("unit m; let x = " + EQUATION_BOUND + " + 0;"), 2)
        self.assertEqual(added("unit m; let x = 0 + " + EQUATION_BOUND + ";"), 2)
        self.assertEqual(added("unit m; let x = " + EQUATION_BOUND + "/m + 0;"), 2)
        self.assertEqual(added("unit m; let x = " + EQUATION_BOUND + "*m + 0;"), -22)
        self.assertEqual(added("unit m; let x = 0 + " + EQUATION_BOUND + "*m;"), -22)
        self.assertEqual(added("fn f(m) = " + EQUATION_BOUND + " + 1;"), 1)
        self.assertEqual(added("fn f(m) = " + EQUATION_BOUND + "*m + 1;"), -22)
        self.assertEqual(added("fn f(m) = 1 + " + EQUATION_BOUND + "*m;"), -22)

    def test_only_the_quotient_counts(self):
        beyond = EQUATION_BOUND + "*m"
        self.assertEqual(added("unit m; let x = " + beyond + " + " + beyond + ";"), 2)
        self.assertEqual(added("unit m; let x = " + EQUATION_BOUND + " + m^-1;"), -22)
        self.assertEqual(added("unit m; let x = " + EQUATION_BOUND + " + m;"), -61)
        self.assertEqual(added("unit m; let x = " + AT_BOUND + " + " + AT_LOWER_BOUND + ";"), -22)

    def test_the_filling_goes_too_far(self):
        first = "x + " + repeated_power("y", [8] * 6 + [4])
        bound = "fn f(x, y, z) = if %s < 0 then 1 else 1 + 0 * (y + %s);"
        self.assertEqual(added(bound % (first, repeated_power("z", [8] * 3 + [2]))), 1)
        self.assertEqual(added(bound % (first, repeated_power("z", [8] * 3 + [3]))), -75)
        self.assertEqual(added(bound % (first, repeated_power("z", [-8] + [8] * 2 + [3]))), -75)


class WhichFirst(unittest.TestCase):
    """Within an item as it comes; items one after the other."""

    BEYOND = "(" + AT_BOUND + ")^2"
    FAR = "fn far(x, y, z) = if x < " + repeated_power("y", [8] * 6 + [4]) + " then 1 else 1 + 0 * (y + " + (
        repeated_power("z", [8] * 3 + [3])) + ");"

    def check(self, row, answer):
        with self.subTest(row=row[:60]):
            self.assertEqual(added("unit m; " + row), answer)

    def test_places_and_products_as_they_come(self):
        self.check("let x = " + "0*" * 24 + self.BEYOND + "*0;", -75)
        self.check("let x = " + "0*" * 25 + self.BEYOND + ";", -28)

    def test_they_come_before_the_count_of_equations(self):
        self.check("let x = " + "1+" * 257 + self.BEYOND + ";", -75)
        self.check("let x = " + "1+" * 257 + "1;", -28)

    def test_they_come_before_what_does_not_go_together(self):
        self.check("let x = 1 + m + " + self.BEYOND + ";", -75)
        self.check("let x = 1 + m + " + "0*" * 24 + "0;", -28)

    def test_the_count_comes_before_what_does_not_go_together(self):
        self.check("let x = m + " + "1+" * 256 + "1;", -28)
        self.check("let x = m + " + "1+" * 255 + "1;", -61)

    def test_the_count_comes_before_exponents_of_equations(self):
        self.check("let x = " + "1+" * 257 + EQUATION_BOUND + "*m;", -28)
        self.check("let x = " + "1+" * 256 + EQUATION_BOUND + "*m;", -22)

    def test_exponents_of_equations_come_before_all_that_is_solved(self):
        self.check("let x = if 1 < m then 1 else " + EQUATION_BOUND + "*m;", -22)
        self.check("let x = if 1 < " + EQUATION_BOUND + "*m then 1 else m;", -22)

    def test_equations_one_after_the_other(self):
        first = "if x < " + repeated_power("y", [8] * 6 + [4])
        second = "y + " + repeated_power("z", [8] * 3 + [3])
        self.check("fn f(x, y, z) = (" + first + " then 1 else 1) + 0*(" + second + ") + m;", -75)
        self.check("fn f(x, y, z) = (" + first + " then 1 else m) + 0*(" + second + ");", -61)

    def test_solving_comes_before_what_is_told(self):
        made = repeated_power("(x + " + repeated_power("y", [8] * 6 + [4]) + ")", [8] * 3 + [3])
        self.check("fn f(x, y) = " + made + ";", -75)
        self.check("fn f(x, y) = " + made + " * (1 + m);", -61)

    def test_items_one_after_the_other(self):
        refused = [
            ("let %s = 1 + m;", -61), ("let %s = " + self.BEYOND + ";", -75), ("let %s = " + "0*" * 24 + "0;", -28),
            ("let %s = 0 + " + EQUATION_BOUND + "*m;", -22), (self.FAR.replace("far", "%s"), -75),
        ]
        for first, code in refused:
            for second, other in refused:
                with self.subTest(code=code, other=other):
                    self.check(first % "one" + second % "two", code)


if __name__ == "__main__":
    unittest.main()
