"""am_unit: what comes of a formula, and its refusals at their edges."""

import unittest

from tests.asking import (
    BACK, EIGHT, START, TWENTY_FOUR, add, asked, filled_up, repeated_power, unit, unit_of,
)

UNITS = "unit m; unit s; let km = 1000 * m; fn g() = s; fn sq(x) = x * x; fn two(x, y) = x + y; "


class WhatComes(unittest.TestCase):
    GOOD = [
        ("1", 0, {}), ("m", 0, {0: 1}), ("s", 0, {1: 1}), ("km", 0, {0: 1}), (" \n m\n ", 0, {0: 1}),
        ("m / s", 0, {0: 1, 1: -1}), ("3.5 * m * s ^ -2", 0, {0: 1, 1: -2}), ("-(km) ^ 9", 0, {0: 9}),
        ("5 * km + m", 0, {0: 1}), ("g()", 0, {1: 1}), ("sq(km / g())", 0, {0: 2, 1: -2}),
        ("two(km, m) * 2", 0, {0: 1}), ("if m < km then s else 2 * s", 0, {1: 1}), ("m / m", 0, {}),
        ("0", 1, {"p0": 1}), ("0.00", 1, {"p0": 1}), ("0.01", 0, {}), ("0 + m", 0, {0: 1}), ("m + 0", 0, {0: 1}),
        ("0 * m", 1, {0: 1, "p0": 1}), ("0 / 0", 2, {"p0": 1, "p1": -1}), ("sq(0)", 1, {"p0": 2}),
        ("0 ^ -3 * s", 1, {1: 1, "p0": -3}), ("0 + 0", 1, {"p0": 1}), ("two(0, 0)", 1, {"p0": 1}),
        ("two(0, 0) * 0 * 0 ^ 2", 3, {"p0": 1, "p1": 1, "p2": 2}), ("if 0 < 0 then 1 else 1", 0, {}),
        ("if 0 < 0 then 0 else 0", 1, {"p0": 1}), ("0 ^ 2 + 0 ^ 3", 1, {"p0": -6}), ("0 ^ 2 + m ^ 4", 0, {0: 4}),
    ]

    def test_places_and_exponents(self):
        for formula, places, product in self.GOOD:
            with self.subTest(formula=formula):
                self.assertEqual(unit_of(UNITS, formula), (places, product))

    def test_number_by_number(self):
        told = asked(add(UNITS), unit("0 * m / s ^ 2 * 0 ^ 3"))
        self.assertEqual(told[1], [1, 2, 8, 1, -2] + [0] * 6 + [24, 1, 3] + [0] * 22)

    def test_behind_a_sheet_without_bytes(self):
        self.assertEqual(asked(unit("1")), [[1, 0, 8] + EIGHT + [24] + TWENTY_FOUR])
        self.assertEqual(unit_of("", "0"), (1, {"p0": 1}))
        self.assertEqual(unit_of("", "m"), -22)

    def test_each_of_eight_units_is_its_own(self):
        row = "".join(["unit u%d; " % k for k in range(8)])
        for k in range(8):
            self.assertEqual(unit_of(row, "u%d ^ %d" % (k, k + 1)), (0, {k: k + 1}))
        self.assertEqual(unit_of(row, "*".join(["u%d" % k for k in range(8)])), (0, {k: 1 for k in range(8)}))

    def test_units_of_later_rows_have_later_marks(self):
        row = "unit a; let x = a;"
        told = asked(add(row), add("unit b;"), unit("b / x"), BACK, unit("b"), add("unit c;"), unit("c"))
        self.assertEqual([answer[1] for answer in told[:2] + told[3:6]], [2, 3, len(row), -22, 3])
        self.assertEqual(told[2], [1, 0, 8, -1, 1] + [0] * 6 + [24] + TWENTY_FOUR)
        self.assertEqual(told[6], [1, 0, 8, 0, 1] + [0] * 6 + [24] + TWENTY_FOUR)

    def test_the_most_places(self):
        self.assertEqual(unit_of("", "*".join(["0"] * 24)), (24, {"p%d" % k: 1 for k in range(24)}))

    def test_it_is_not_put_behind_the_sheet(self):
        told = asked(add("unit m;"), unit("2 * m"), unit("2 * m"), add("unit s;"), BACK, BACK, BACK)
        self.assertEqual([told[0], told[3]] + told[4:], [[0, 1], [0, 2], [0, 7], [0, 0], [0, -2]])
        self.assertEqual(told[1], told[2])

    def test_after_starting_again_the_sheet_is_gone(self):
        self.assertEqual(asked(add("unit m;"), START, unit("m"))[2], [0, -22])

    def test_nothing_that_goes_together_with_something_is_refused(self):
        row = UNITS + "fn h(x, y) = x ^ 2 + y ^ 3; fn k(x) = x * x + 1; fn id(x) = x; "
        self.assertEqual(unit_of(row, "h(m ^ 3, m ^ 2) + h(0, 0)"), (0, {0: 6}))
        self.assertEqual(unit_of(row, "h(s ^ 3, s ^ 2)"), (0, {1: 6}))
        self.assertEqual(unit_of(row, "h(8, 4)"), (0, {}))
        self.assertEqual(unit_of(row, "k(0)"), (0, {}))
        self.assertEqual(unit_of(row, "id(id(m)) * id(s)"), (0, {0: 1, 1: 1}))


class NameOfItsOwn(unittest.TestCase):
    """What is put behind has a name that is no item's, and that the formula can't use."""

    NAMES = [
        "a", "b", "f", "i", "n", "q", "t", "u", "x", "y", "z", "it", "out", "tmp", "name", "item", "asked", "expr",
        "formula", "fresh", "value", "result", "let_", "x_", "x0", "q0", "unitsheet", "zzzzzzzzzzzzzzzz",
        "aaaaaaaaaaaaaaaa", "a0", "a1", "n0", "n1", "t0", "new", "free", "what", "comes",
    ]

    def test_a_name_that_the_sheet_has(self):
        row = "".join(["let %s = 1;" % name for name in self.NAMES])
        self.assertEqual(unit_of(row, "1"), (0, {}))
        for name in self.NAMES:
            with self.subTest(name=name):
                self.assertEqual(unit_of("unit %s;" % name, name), (0, {0: 1}))
                self.assertEqual(unit_of("fn f1(%s) = %s;" % (name, name), "f1(0)"), (1, {"p0": 1}))

    def test_a_name_that_the_sheet_has_not(self):
        for name in self.NAMES:
            with self.subTest(name=name):
                self.assertEqual(unit_of("unit m;", name), -22)
                self.assertEqual(unit_of("", name + "()"), -22)


class Bytes(unittest.TestCase):
    def test_none(self):
        self.assertEqual(unit_of("", ""), -71)
        self.assertEqual(unit_of(UNITS, ""), -71)
        self.assertEqual(unit_of(UNITS, " \n"), -71)

    def test_of_the_formula_alone(self):
        self.assertEqual(unit_of("", filled_up("1", 7999)), (0, {}))
        self.assertEqual(unit_of("", filled_up("1", 8000)), (0, {}))
        for size in (8001, 8191, 8192, 8193, 9000):
            with self.subTest(size=size):
                self.assertEqual(unit_of("", filled_up("1", size)), -28)

    def test_of_the_sheet_and_the_formula_together(self):
        self.assertEqual(unit_of("unit m;", filled_up("m", 7992)), (0, {0: 1}))
        self.assertEqual(unit_of("unit m;", filled_up("m", 7993)), (0, {0: 1}))
        self.assertEqual(unit_of("unit m;", filled_up("m", 7994)), -28)
        self.assertEqual(unit_of(filled_up("unit m;", 7999), "m"), (0, {0: 1}))
        self.assertEqual(unit_of(filled_up("unit m;", 8000), "m"), -28)
        self.assertEqual(unit_of(filled_up("unit m;", 8192), "m"), -28)
        self.assertEqual(unit_of(filled_up("unit m;", 8192), "m" * 9000), -28)

    def test_none_behind_a_long_sheet(self):
        self.assertEqual(unit_of(filled_up("unit m;", 8000), ""), -71)
        self.assertEqual(unit_of(filled_up("unit m;", 8001), ""), -28)

    def test_what_is_too_long_is_not_looked_at(self):
        self.assertEqual(unit_of("", "!" * 8000), -71)
        self.assertEqual(unit_of("", "!" * 8001), -28)
        self.assertEqual(unit_of("unit m;", "!" * 7993), -71)
        self.assertEqual(unit_of("unit m;", "!" * 7994), -28)

    def test_each_byte_by_itself(self):
        for byte in range(256):
            with self.subTest(byte=byte):
                comes = (0, {})
                if byte == ord("m"):
                    comes = (0, {0: 1})
                elif byte == ord("0"):
                    comes = (1, {"p0": 1})
                elif chr(byte) in "abcdefghijklmnopqrstuvwxyz":
                    comes = -22
                elif chr(byte) not in "123456789":
                    comes = -71
                self.assertEqual(unit_of("unit m;", [byte]), comes)


class NoFormula(unittest.TestCase):
    BAD = [
        "1;", ";", ";1", "1;;", "1; unit q", "1; unit q;", "1; let q = 2", "m; let q = m", "1; fn q(x) = x", "1 2",
        "m s", "1)", "(1", "()", "1 +", "* 1", "1, 2", "1 = 1", "= 1", "1 < 2", "let q = 1", "unit q", "unit q;",
        "fn q() = 1",
        "if 1 < 2 then 3", "then 1", "1 else 2", "m ^ 0", "m ^ 10", "m ^ 2 ^ 3", "2(3)", "1.", ".5", "!", "1e5", "M",
        "1234567890123456", "abcdefghijklmnopq", "let", "unit", "fn", "1 + if 1 < 2 then 3 else 4", "-", "m;\n",
        "1; let let = 2", "1; !", "0 ; 0", "1 ; ) (", "1;1",
    ]

    def test_it_ends_before_its_bytes_do_or_is_none(self):
        for formula in self.BAD:
            with self.subTest(formula=formula):
                self.assertEqual(unit_of(UNITS, formula), -71)
                self.assertEqual(unit_of("", formula), -71)

    def test_deep(self):
        row = "fn inc(x) = x + 1;"
        for made in ("(%s)", "-%s", "inc(%s)", "if 1 < 2 then %s else 3", "if 1 < 2 then 3 else %s"):
            formula = "1"
            for count in range(31):
                formula = made % formula
            with self.subTest(made=made):
                self.assertEqual(unit_of(row, formula), (0, {}))
                self.assertEqual(unit_of(row, made % formula), -71)

    def test_far_too_deep(self):
        self.assertEqual(unit_of(UNITS, "(" * 900 + "1" + ")" * 900), -71)
        self.assertEqual(unit_of(UNITS, "-" * 1900 + "1"), -71)


class Tokens(unittest.TestCase):
    def test_those_that_are_put_about_it_count(self):
        self.assertEqual(unit_of("", "1*" * 1021 + "1"), (0, {}))
        self.assertEqual(unit_of("", "-" + "1*" * 1021 + "1"), (0, {}))
        self.assertEqual(unit_of("", "1*" * 1022 + "1"), -28)

    def test_those_of_the_sheet_count(self):
        self.assertEqual(unit_of("unit m;", "1*" * 1020 + "1"), (0, {}))
        self.assertEqual(unit_of("unit m;", "-" + "1*" * 1020 + "1"), -28)
        self.assertEqual(unit_of("unit m;", "1*" * 1021 + "1"), -28)

    def test_a_sheet_that_leaves_no_room(self):
        row = "let x = " + "1*" * 1019 + "1; "
        self.assertEqual(unit_of(row, "x"), (0, {}))
        self.assertEqual(unit_of(row, "-x"), -28)
        self.assertEqual(unit_of("unit m; " + row, "x"), -28)


class Items(unittest.TestCase):
    def test_how_many(self):
        rows = ["let n%d = 1;" % k for k in range(64)]
        self.assertEqual(unit_of("".join(rows[:62]), "n0"), (0, {}))
        self.assertEqual(unit_of("".join(rows[:63]), "n0"), (0, {}))
        self.assertEqual(unit_of("".join(rows), "n0"), -28)

    def test_after_taking_back_there_is_room(self):
        rows = ["".join(["let n%d = 1;" % k for k in range(63)]), "unit m;"]
        told = asked(add(rows[0]), add(rows[1]), unit("n0"), BACK, unit("n0"))
        self.assertEqual(told[2:4], [[0, -28], [0, len(rows[0])]])
        self.assertEqual(told[4], [1, 0, 8] + EIGHT + [24] + TWENTY_FOUR)


class NotRight(unittest.TestCase):
    BAD = [
        "q", "x", "q()", "q(1)", "g", "sq", "two", "g + 1", "m()", "m(1)", "km()", "sq()", "sq(1, 2)", "g(1)", "two(1)",
        "two(1, 2, 3)", "sq(sq)", "sq(q)", "1 + (2 * -q ^ 2)", "if q < 1 then 1 else 1", "if 1 < q then 1 else 1",
        "if 1 < 2 then q else 1", "if 1 < 2 then 1 else q", "km2", "kmm", "k",
    ]

    def test_names_that_the_sheet_has_not_or_has_otherwise(self):
        for formula in self.BAD:
            with self.subTest(formula=formula):
                self.assertEqual(unit_of(UNITS, formula), -22)


class Bounds(unittest.TestCase):
    def test_places(self):
        for count in (23, 24):
            self.assertEqual(unit_of("", "*".join(["0"] * count))[0], count)
        self.assertEqual(unit_of("", "*".join(["0"] * 25)), -28)
        self.assertEqual(unit_of("", "+".join(["0"] * 24)), (1, {"p0": 1}))
        self.assertEqual(unit_of("", "+".join(["0"] * 25)), -28)

    def test_places_of_amounts_and_calls(self):
        row = "let z = 0*0*0*0*0*0; fn f(a, b, c, d, e, g) = 1; "
        self.assertEqual(unit_of(row, "z*z*z*z")[0], 24)
        self.assertEqual(unit_of(row, "z*z*z*z*0"), -28)
        self.assertEqual(unit_of(row, "z*z*z*f(1,1,1,1,1,1)")[0], 18)
        self.assertEqual(unit_of(row, "z*z*z*z*f(1,1,1,1,1,1)"), -28)

    def test_exponents(self):
        at_bound = repeated_power("m", [8] * 10)
        self.assertEqual(unit_of("unit m;", at_bound), (0, {0: 2 ** 30}))
        self.assertEqual(unit_of("unit m;", "(" + at_bound + ")^-1"), (0, {0: -2 ** 30}))
        self.assertEqual(unit_of("unit m;", at_bound + "/m"), (0, {0: 2 ** 30 - 1}))
        self.assertEqual(unit_of("unit m;", at_bound + "*m"), -75)
        self.assertEqual(unit_of("unit m;", at_bound + "/m^-1"), -75)
        self.assertEqual(unit_of("unit m;", "(" + at_bound + ")^2"), -75)
        self.assertEqual(unit_of("unit m;", "(" + at_bound + ")^-2"), -75)
        self.assertEqual(unit_of("", repeated_power("0", [8] * 10)), (1, {"p0": 2 ** 30}))
        self.assertEqual(unit_of("", repeated_power("0", [-9] * 10)), -75)

    def test_how_many_equations(self):
        self.assertEqual(unit_of("", "+".join(["1"] * 256)), (0, {}))
        self.assertEqual(unit_of("", "+".join(["1"] * 257)), (0, {}))
        self.assertEqual(unit_of("", "+".join(["1"] * 258)), -28)

    def test_exponents_of_an_equation(self):
        at_bound = repeated_power("m", [8] * 6 + [4])
        self.assertEqual(unit_of("unit m;", "0 + " + at_bound), (0, {0: 2 ** 20}))
        self.assertEqual(unit_of("unit m;", at_bound + "*m + 0"), -22)
        self.assertEqual(unit_of("unit m;", "0 - " + at_bound + "*m"), -22)

    def test_exponents_while_it_is_solved(self):
        inside = "(0 + " + repeated_power("0", [8] * 3 + [2]) + ")"
        self.assertEqual(unit_of("", "0 + " + repeated_power(inside, [8] * 6 + [4])), (1, {"p0": 2 ** 30}))
        inside = "(0 + " + repeated_power("0", [8] * 3 + [3]) + ")"
        self.assertEqual(unit_of("", "0 + " + repeated_power(inside, [8] * 6 + [4])), -75)

    def test_exponents_of_what_is_told(self):
        inside = "(0 + " + repeated_power("0", [8] * 6 + [4]) + ")"
        self.assertEqual(unit_of("", repeated_power(inside, [8] * 3 + [2])), (1, {"p0": 2 ** 30}))
        self.assertEqual(unit_of("", repeated_power(inside, [8] * 3 + [3])), -75)

    def test_what_does_not_go_together(self):
        for formula in (
            "m + s", "1 + m", "m - 1", "km + s", "two(m, s)", "if m < s then 1 else 1", "if 1 < 2 then m else s",
            "sq(m) + m", "g() + m", "0 + m + s", "0 ^ 2 + m", "two(sq(0), m)",
        ):
            with self.subTest(formula=formula):
                self.assertEqual(unit_of(UNITS, formula), -61)


class WhichFirst(unittest.TestCase):
    """In the order in which a sheet is read."""

    FULL = "".join(["let n%d = 1;" % k for k in range(64)])

    def test_too_many_bytes_before_all(self):
        self.assertEqual(unit_of("", filled_up("!", 8001)), -28)

    def test_what_cannot_be_parted_before_too_many_tokens(self):
        self.assertEqual(unit_of("", "1 " * 2045), -28)
        self.assertEqual(unit_of("", "1 " * 2045 + "!"), -71)
        self.assertEqual(unit_of("", "1 " * 2045 + "1."), -71)

    def test_too_many_tokens_before_what_is_no_formula(self):
        self.assertEqual(unit_of("", ";" * 2044), -71)
        self.assertEqual(unit_of("", ";" * 2045), -28)

    def test_what_is_no_formula_before_too_many_items(self):
        self.assertEqual(unit_of(self.FULL, "1"), -28)
        self.assertEqual(unit_of(self.FULL, "1 1"), -71)
        self.assertEqual(unit_of(self.FULL, "1;"), -71)
        self.assertEqual(unit_of(self.FULL, "1; unit q"), -71)
        self.assertEqual(unit_of(self.FULL, ""), -71)
        self.assertEqual(unit_of(self.FULL, "-" * 32 + "1"), -71)

    def test_what_ends_before_its_bytes_do_before_all_that_stands_behind_it(self):
        self.assertEqual(unit_of("unit m;", "1; unit m"), -71)
        self.assertEqual(unit_of("unit m;", "q; unit r"), -71)
        self.assertEqual(unit_of("unit m;", "1 + m; unit r"), -71)
        self.assertEqual(unit_of("unit m;", "1; fn r(a, b, c, d, e, f, g) = 1"), -71)

    def test_too_many_items_before_what_is_not_right(self):
        self.assertEqual(unit_of(self.FULL, "q"), -28)
        self.assertEqual(unit_of(self.FULL, "n0()"), -28)

    def test_what_is_not_right_before_places_and_exponents(self):
        self.assertEqual(unit_of("", "0*" * 25 + "q"), -22)
        self.assertEqual(unit_of("unit m;", repeated_power("m", [9] * 10) + "*q"), -22)
        self.assertEqual(unit_of("unit m;", "1 + m + q"), -22)

    def test_places_and_exponents_as_they_come(self):
        beyond = repeated_power("m", [9] * 10)
        self.assertEqual(unit_of("unit m;", "0*" * 24 + beyond + "*0"), -75)
        self.assertEqual(unit_of("unit m;", "0*" * 25 + beyond), -28)

    def test_they_come_before_the_equations(self):
        self.assertEqual(unit_of("unit m;", "1+" * 257 + repeated_power("m", [9] * 10)), -75)
        self.assertEqual(unit_of("unit m;", "1 + m + " + "0*" * 24 + "0"), -28)

    def test_too_many_equations_before_what_they_say(self):
        self.assertEqual(unit_of("unit m;", "1+" * 257 + "m"), -28)
        self.assertEqual(unit_of("unit m;", "1+" * 256 + "m"), -61)

    def test_exponents_of_equations_before_what_does_not_go_together(self):
        self.assertEqual(unit_of("unit m;", "1 + m + " + repeated_power("m", [8] * 7)), -22)


if __name__ == "__main__":
    unittest.main()
