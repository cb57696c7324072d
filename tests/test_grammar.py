"""am_add: what is a sheet by its grammar, how deep, how many items."""

import unittest

from tests.asking import BACK, add, added, ask

UNIT = "unit m; fn g() = 1; fn f(x) = x; fn f2(x, y) = x * y; "


class Formulas(unittest.TestCase):
    GOOD = [
        "1", "m", "(m)", "((m))", "-m", "--m", "- -m", "-(m)", "m ^ 2", "m ^ -2", "m^9", "m^-9", "-m ^ 2", "(m^2)^2",
        "1 + 2", "1 - 2 + 3", "1 - -2", "2 * 3 / 4", "2 * -3", "2 / -3 ^ 2", "g()", "g ( )", "f(m)", "f2(1, m)",
        "f(-1)", "f(f(f(1)))", "f2(1, 2) ^ 3", "f(if 1 < 2 then 3 else 4)", "if 1 < 2 then 3 else 4",
        "if 1 + 1 < 2 * 2 then m else 2 * m", "if 1 < 2 then if 3 < 4 then 5 else 6 else 7",
        "if 1 < 2 then 3 else if 4 < 5 then 6 else 7", "(if 1 < 2 then 3 else 4) + 1", "if 1 < 2 then 3 else 4 + 5",
        "if (if 1 < 2 then 3 else 4) < 5 then 6 else 7", "-(if 1 < 2 then 3 else 4)", "f2((1), (2))",
    ]
    BAD = [
        "", "+", "+1", "1 +", "1 + + 2", "* 1", "1 *", "1 * / 2", "/", "^", "m ^", "m ^ -", "^ 2", "()", "(", ")", "(1",
        "1)", "(1))", "((1)", "1 2", "m m", "m 1", "1 m", "2(3)", "(1)(2)", "f(", "f)", "f(1", "f(,)", "f(1,)", "f(,1)",
        "f(1 2)", "f(1)(2)", "(f)(1)", "1, 2", "(1, 2)", "-", "--", "1 -", "1 < 2", "(1 < 2)", "1 = 2", "if", "if 1",
        "if 1 < 2", "if 1 < 2 then 3", "if 1 < 2 then 3 else", "if 1 < 2 else 3", "if then else", "if < then 1 else 2",
        "if 1 then 2 else 3", "if 1 < 2 < 3 then 4 else 5", "if (1 < 2) then 3 else 4", "1 + if 1 < 2 then 3 else 4",
        "-if 1 < 2 then 3 else 4", "if if 1 < 2 then 3 else 4 < 5 then 6 else 7", "then", "else", "unit", "let x",
        "1 = 1", "m ^ 2 ^ 3", "m ^ m", "m ^ (2)", "m ^ +2", "m ^ --2", "m ^ -(2)", "m ^ 2 3", "1; 2", "if 1 <",
    ]
    POWERS = ["0", "00", "01", "10", "11", "99", "1.0", "2.0", "0.5", "-0", "-10", "-01", "-1.0", "100000000000000"]

    def test_good_ones(self):
        for formula in self.GOOD:
            with self.subTest(formula=formula):
                self.assertEqual(added(UNIT + "let z = " + formula + ";"), 5)
                self.assertEqual(added(UNIT + "fn z() = " + formula + ";"), 5)

    def test_bad_ones(self):
        for formula in self.BAD:
            with self.subTest(formula=formula):
                self.assertEqual(added(UNIT + "let z = " + formula + ";"), -71)
                self.assertEqual(added(UNIT + "fn z() = " + formula + ";"), -71)

    def test_each_power_of_one_digit(self):
        for power in range(1, 10):
            for sign in ("", "-", "- "):
                with self.subTest(power=power, sign=sign):
                    self.assertEqual(added("unit m; let z = m ^ " + sign + str(power) + ";"), 2)

    def test_other_powers(self):
        for power in self.POWERS:
            with self.subTest(power=power):
                self.assertEqual(added("unit m; let z = m ^ " + power + ";"), -71)


class Items(unittest.TestCase):
    GOOD = [
        ("unit m;", 1), ("let x = 1;", 1), ("fn f() = 1;", 1), ("fn f(a) = 1;", 1), ("fn f(a, b) = 1;", 1),
        ("unit m; let x = m; fn f(a) = a * x;", 3), ("unit m;unit s;", 2),
    ]
    BAD = [
        ";", "unit;", "unit m", "unit m s;", "unit m;;", "unit 1;", "unit m = 1;", "unit m();", "unit", "let", "fn",
        "let x;", "let x = ;", "let = 1;", "let x 1;", "let x = 1", "let 1 = x;", "let x() = 1;", "let x(a) = a;",
        "let x = 1; 2", "fn f = 1;", "fn f( = 1;", "fn f) = 1;", "fn f(a;", "fn f(,) = 1;", "fn f(a,) = 1;",
        "fn f(,a) = 1;", "fn f(a b) = 1;", "fn f(1) = 1;", "fn f((a)) = 1;", "fn f(a + b) = 1;", "fn f() 1;",
        "fn f();", "fn f() =;", "fn () = 1;", "fn f() = 1", "x = 1;", "1;", "m;", "if 1 < 2 then 3 else 4;",
        "unit m; let x", "then", "else;", "(unit m;)", "let let x = 1;",
        "x y = 1;", "if y = 1;", "else y = 1;", "1 y = 1;", "( y = 1;", "; y = 1;", "units y;", "lets y = 1;",
    ]

    def test_good_ones(self):
        for row, count in self.GOOD:
            with self.subTest(row=row):
                self.assertEqual(added(row), count)

    def test_bad_ones(self):
        for row in self.BAD:
            with self.subTest(row=row):
                self.assertEqual(added(row), -71)

    def test_bad_ones_behind_a_sheet(self):
        for row in self.BAD:
            with self.subTest(row=row):
                self.assertEqual(added("unit aa;", row), -71)


def chosen(count, inside, behind_then):
    """An if within an if, so often, behind then or behind else."""
    for number in range(count):
        if behind_then:
            inside = "if 1 < 2 then " + inside + " else 3"
        else:
            inside = "if 1 < 2 then 3 else " + inside
    return inside


class Deep(unittest.TestCase):
    def check(self, made):
        """What is made with 31 lies 32 deep, with 32 one deeper than may be."""
        items = "fn g() = 1; fn f(x) = x + 1; fn f2(x, y) = x + y + 1; "
        for count, answer in ((30, 4), (31, 4), (32, -71), (33, -71)):
            with self.subTest(count=count):
                self.assertEqual(added(items + "let z = " + made(count) + ";"), answer)

    def test_parentheses(self):
        self.check(lambda count: "(" * count + "1" + ")" * count)

    def test_calls(self):
        self.check(lambda count: "f(" * count + "1" + ")" * count)

    def test_what_is_handed_to_a_call_behind_the_first(self):
        self.check(lambda count: "f2(1, " * count + "1" + ")" * count)
        self.check(lambda count: "f2(1, " + "(" * (count - 1) + "1" + ")" * count)

    def test_minus(self):
        self.check(lambda count: "-" * count + "1")

    def test_then(self):
        self.check(lambda count: chosen(count, "1", True))

    def test_else(self):
        self.check(lambda count: chosen(count, "1", False))

    def test_all_mixed(self):
        self.check(lambda count: "-(f(" + chosen(count - 3, "1", False) + "))")
        self.check(lambda count: chosen(10, "(" * 5 + "-" * (count - 20) + "f(f(f(f(f(1)))))" + ")" * 5, True))

    def test_what_stands_about_less_lies_no_deeper(self):
        self.check(lambda count: "if " + "(" * count + "1" + ")" * count + " < 2 then 3 else 4")
        self.check(lambda count: "if 2 < " + "-" * count + "1 then 3 else 4")

    def test_what_stands_side_by_side_lies_no_deeper(self):
        self.check(lambda count: "1 + (2) * -3 - f(4) / " + "(" * count + "1" + ")" * count)
        self.assertEqual(added("let z = " + "(1) * -1 * " * 100 + "1;"), 1)

    def test_a_number_behind_a_power_lies_no_deeper(self):
        self.check(lambda count: "(" * count + "1 ^ -2" + ")" * count)

    def test_a_call_without_anything_has_nothing_deeper(self):
        self.check(lambda count: "(" * count + "g()" + ")" * count)

    def test_each_item_begins_anew(self):
        row = "let a = " + "(" * 31 + "1" + ")" * 31 + ";"
        self.assertEqual(added(row + row.replace("a", "b")), 2)

    def test_far_too_deep(self):
        for made in ("(" * 1000 + "1" + ")" * 1000, "-" * 2000 + "1", "f(" * 600 + "1" + ")" * 600):
            with self.subTest(made=made[:10]):
                self.assertEqual(added("fn f(x) = x; let z = " + made + ";"), -71)

    def test_far_too_deep_and_not_closed(self):
        self.assertEqual(added("let z = " + "(" * 2000), -71)


class Counts(unittest.TestCase):
    def test_items(self):
        rows = ["let n%d = 1;" % k for k in range(65)]
        self.assertEqual(added("".join(rows[:63])), 63)
        self.assertEqual(added("".join(rows[:64])), 64)
        self.assertEqual(added("".join(rows)), -28)

    def test_items_of_all_rows_count(self):
        rows = ["fn n%d() = 1;" % k for k in range(65)]
        self.assertEqual(ask(add("".join(rows[:60])), add("".join(rows[60:64])), add(rows[64])), [60, 64, -28])
        told = ask(add("".join(rows[:60])), add("".join(rows[60:65])), add(rows[60]), BACK)
        self.assertEqual(told, [60, -28, 61, len("".join(rows[:60]))])

    def test_units(self):
        rows = ["unit n%d;" % k for k in range(9)]
        self.assertEqual(added("".join(rows[:7])), 7)
        self.assertEqual(added("".join(rows[:8])), 8)
        self.assertEqual(added("".join(rows)), -28)
        self.assertEqual(added("".join(rows[:8]), "let x = n7;"), 9)
        self.assertEqual(added("".join(rows[:8]), rows[8]), -28)

    def test_parameters(self):
        self.assertEqual(added("fn f(a, b, c, d, e) = 1;"), 1)
        self.assertEqual(added("fn f(a, b, c, d, e, g) = 1;"), 1)
        self.assertEqual(added("fn f(a, b, c, d, e, g, h) = 1;"), -28)
        self.assertEqual(added("fn f(" + "a, " * 900 + "a) = 1;"), -28)

    def test_a_call_with_more_is_not_right(self):
        self.assertEqual(added("fn f(a, b, c, d, e, g) = 1; let x = f(1, 2, 3, 4, 5, 6, 7);"), -22)

    def test_what_is_no_sheet_comes_before_too_many(self):
        self.assertEqual(added("fn f(a, b, c, d, e, g, h) = 1; let x = ;"), -71)
        self.assertEqual(added("".join(["unit n%d;" % k for k in range(9)]) + "("), -71)
        self.assertEqual(added("".join(["let n%d = 1;" % k for k in range(65)]) + "let x = " + "-" * 32 + "1;"), -71)

    def test_too_many_come_before_what_is_not_right(self):
        self.assertEqual(added("unit m; unit m; fn f(a, b, c, d, e, g, h) = 1;"), -28)
        self.assertEqual(added("unit m;" * 9), -28)
        self.assertEqual(added("let m = 1;" * 65), -28)
        self.assertEqual(added("let m = 1;" * 64), -22)
        self.assertEqual(added("unit m;" * 8), -22)
        self.assertEqual(added("fn f(a, a, a, a, a, a, a) = x;"), -28)


if __name__ == "__main__":
    unittest.main()
