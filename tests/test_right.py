"""am_add: which sheets are right."""

import unittest

from tests.asking import add, added, ask, repeated_power


class Right(unittest.TestCase):
    GOOD = [
        ("unit m; let x = m; let y = x * m;", 3),
        ("fn f(x) = x; fn g(x) = f(x);", 2),
        ("fn f(x) = x; let x = f(1);", 2),
        ("fn f(m) = m; unit m;", 2),
        ("fn f(f) = f;", 1),
        ("fn f(f) = f; let y = f(2);", 2),
        ("fn f(g) = g; fn g(a) = f(a);", 2),
        ("fn f() = 1; let x = f();", 2),
        ("fn f(a, b) = a; let x = f(1, 2);", 2),
        ("fn f(x, y) = x;", 1),
    ]
    NOT_RIGHT = [
        "unit m; unit m;",
        "unit m; let m = 1;",
        "let m = 1; fn m() = 1;",
        "fn m() = 1; unit m;",
        "fn m() = 1; fn m(a) = 1;",
        "fn f(a, a) = a;",
        "fn f(a, b, a) = 1;",
        "unit m; fn f(m) = m;",
        "unit m; fn f(x, m) = x;",
        "let m = 1; fn f(m) = m;",
        "fn g() = 1; fn f(g) = g;",
        "let x = y;",
        "let x = x;",
        "let x = y; let y = 1;",
        "fn f(x) = x; let y = x;",
        "fn f(x) = y; let y = 1;",
        "fn f() = f();",
        "fn f(x) = f(x);",
        "fn f(f) = f(f);",
        "fn f() = g(); fn g() = 1;",
        "fn f() = 1; let x = f;",
        "fn f(x) = x; let y = f + 1;",
        "unit m; let x = m();",
        "unit m; let x = m(1);",
        "let a = 1; let x = a();",
        "fn f(x) = x(1);",
        "fn f(x) = x();",
        "let x = f(1);",
        "fn f() = 1; let x = f(1);",
        "fn f(a) = 1; let x = f();",
        "fn f(a) = 1; let x = f(1, 2);",
        "fn f(a, b) = 1; let x = f(1);",
        "fn f(a) = a; let x = f(f);",
        "let x = 1 + (2 * -y ^ 2);",
        "let x = if y < 1 then 2 else 3;",
        "let x = if 1 < y then 2 else 3;",
        "let x = if 1 < 2 then y else 3;",
        "let x = if 1 < 2 then 3 else y;",
    ]

    def test_good_ones(self):
        for row, count in self.GOOD:
            with self.subTest(row=row):
                self.assertEqual(added(row), count)

    def test_those_that_are_not(self):
        for row in self.NOT_RIGHT:
            with self.subTest(row=row):
                self.assertEqual(added(row), -22)

    def test_the_same_with_each_item_in_a_row_of_its_own(self):
        for row, count in self.GOOD:
            with self.subTest(row=row):
                self.assertEqual(added(*[item + ";" for item in row.split(";")[:-1]]), count)
        for row in self.NOT_RIGHT:
            with self.subTest(row=row):
                self.assertIn(-22, ask(*[add(item + ";") for item in row.split(";")[:-1]]))

    def test_it_comes_before_what_does_not_go_together(self):
        self.assertEqual(added("unit m; let x = m + 1;"), -61)
        self.assertEqual(added("unit m; let x = m + 1; let y = z;"), -22)
        self.assertEqual(added("unit m; let x = m + 1; unit m;"), -22)

    def test_it_comes_before_places_and_exponents(self):
        self.assertEqual(added("let x = " + "0*" * 24 + "0; unit x;"), -22)
        self.assertEqual(added("unit m; let x = " + repeated_power("m", [9] * 10) + "; let y = f(1);"), -22)


if __name__ == "__main__":
    unittest.main()
