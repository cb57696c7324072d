"""am_value: what a formula is worth in another, in lowest terms, and its refusals in their order."""

import unittest

from tests.asking import BACK, START, add, asked, filled_up, repeated_power, value, value_of

UNITS = "unit m; unit s; let km = 1000 * m; "
MOST = 2 ** 63 - 1
# Numbers have 15 digits at most: the largest one is put together.
MOST_TEXT = "(9223372036 * 1000000000 + 854775807)"


class Signs(unittest.TestCase):
    WORTH = [
        ("7", 7, 1), ("007", 7, 1), ("0", 0, 1), ("0.0", 0, 1), ("1.5", 3, 2), ("0.1", 1, 10), ("2.50", 5, 2),
        ("123456789012345", 123456789012345, 1), ("0.00000000000001", 1, 10 ** 14), ("00.50", 1, 2),
        ("12345678.1234567", 123456781234567, 10 ** 7), ("999999999999.999", 999999999999999, 1000), ("4.0", 4, 1),
        ("1 + 2", 3, 1), ("1 - 2", -1, 1), ("2 * 3", 6, 1), ("2 / 3", 2, 3), ("6 / 4", 3, 2), ("1 - 1", 0, 1),
        ("1 / 3 + 1 / 6", 1, 2), ("0.1 + 0.2", 3, 10), ("1 / 2 - 1 / 3", 1, 6), ("2 / 3 * 3 / 2", 1, 1),
        ("1 - 2 - 3", -4, 1), ("1 - 2 + 3", 2, 1), ("8 / 4 / 2", 1, 1), ("8 / 4 * 2", 4, 1), ("1 + 2 * 3", 7, 1),
        ("(1 + 2) * 3", 9, 1), ("1 - (2 - 3)", 2, 1), ("8 / (4 / 2)", 4, 1), ("2 * 3 ^ 2", 18, 1),
        ("(2 * 3) ^ 2", 36, 1), ("-3", -3, 1), ("--3", 3, 1), ("---3", -3, 1), ("-0", 0, 1), ("2 - -3", 5, 1),
        ("2 * -3", -6, 1), ("-1 / 3", -1, 3), ("1 / -3", -1, 3), ("-1 / -3", 1, 3), ("-(1 - 3)", 2, 1),
        ("0 / 5", 0, 1), ("0 / -5", 0, 1), ("-0.5", -1, 2),
    ]

    def test_each(self):
        for formula, over, under in self.WORTH:
            with self.subTest(formula=formula):
                self.assertEqual(value_of("", formula), (over, under))

    def test_powers(self):
        for power in range(1, 10):
            with self.subTest(power=power):
                self.assertEqual(value_of("", "3 ^ %d" % power), (3 ** power, 1))
                self.assertEqual(value_of("", "3 ^ -%d" % power), (1, 3 ** power))
                self.assertEqual(value_of("", "(2 / 3) ^ %d" % power), (2 ** power, 3 ** power))
                self.assertEqual(value_of("", "(-2 / 3) ^ %d" % power), ((-2) ** power, 3 ** power))
                self.assertEqual(value_of("", "(2 / -3) ^ -%d" % power), ((-3) ** power, 2 ** power))
                self.assertEqual(value_of("", "0 ^ %d" % power), (0, 1))
                self.assertEqual(value_of("", "0 ^ -%d" % power), -33)

    def test_a_minus_before_a_power_belongs_to_what_is_raised(self):
        self.assertEqual(value_of("", "-2 ^ 2"), (4, 1))
        self.assertEqual(value_of("", "-(2 ^ 2)"), (-4, 1))
        self.assertEqual(value_of("", "1 - 2 ^ 2"), (-3, 1))
        self.assertEqual(value_of("", "-2 ^ -3"), (-1, 8))

    def test_choices(self):
        for first, second, less in (
            ("1", "2", True), ("2", "1", False), ("1", "1", False), ("-1", "0", True), ("0", "-1", False),
            ("1 / 3", "1 / 2", True), ("1 / 2", "1 / 3", False), ("-1 / 2", "-1 / 3", True),
            ("0.3", "0.1 + 0.2", False), ("2 / 6", "1 / 3", False), ("0.333333333333", "1 / 3", True),
            ("-2", "-1", True), ("-1", "-2", False),
        ):
            with self.subTest(first=first, second=second):
                formula = "if %s < %s then 5 else 7" % (first, second)
                self.assertEqual(value_of("", formula), (5 if less else 7, 1))
                self.assertEqual(value_of("", "2 * (" + formula + ") + 1"), (11 if less else 15, 1))

    def test_choices_within_choices(self):
        row = "fn sign(x) = if x < 0 then -1 else if 0 < x then 1 else 0 * 1; "
        self.assertEqual([value_of(row, "sign(%s)" % x)[0] for x in ("-5", "0", "0.2")], [-1, 0, 1])
        within = "if if_ < 2 then if if_ < 1 then 10 else 11 else if if_ < 3 then 12 else 13"
        for number in range(4):
            self.assertEqual(value_of("let if_ = %d + 0 * 1;" % number, within), (10 + number, 1))
        self.assertEqual(value_of("", "if (if 1 < 2 then 3 else 4) < (if 2 < 1 then 3 else 4) then 5 else 6"), (5, 1))

    def test_the_other_one_is_not_worked_out(self):
        self.assertEqual(value_of("", "if 0 < 1 then 2 else 1 / 0"), (2, 1))
        self.assertEqual(value_of("", "if 1 < 0 then 1 / 0 else 2"), (2, 1))
        self.assertEqual(value_of("", "if 0 < 1 then 1 / 0 else 2"), -33)
        self.assertEqual(value_of("", "if 1 < 0 then 2 else 1 / 0"), -33)
        beyond = MOST_TEXT + " + 1"
        self.assertEqual(value_of("", "(if 0 < 1 then 2 else 0 ^ -1) + (if 1 < 0 then %s else 3)" % beyond), (5, 1))


class NamesAndCalls(unittest.TestCase):
    def test_units_are_one(self):
        self.assertEqual(value_of(UNITS, "m", "m"), (1, 1))
        self.assertEqual(value_of(UNITS, "3 * m / (2 * s)", "m / s"), (3, 2))
        self.assertEqual(value_of(UNITS, "m ^ 2 + km * m", "m ^ 2"), (1001, 1))

    def test_amounts(self):
        self.assertEqual(value_of(UNITS, "5 * km", "m"), (5000, 1))
        self.assertEqual(value_of(UNITS, "5 * m", "km"), (1, 200))
        self.assertEqual(value_of(UNITS, "km", "km"), (1, 1))
        self.assertEqual(value_of(UNITS + "let v = 36 * km / (3600 * s);", "v", "m / s"), (10, 1))

    def test_an_amount_that_is_used_a_hundred_times(self):
        row = UNITS + "let a = 3 * m; "
        self.assertEqual(value_of(row, "+".join(["a"] * 100), "m"), (300, 1))
        self.assertEqual(value_of(row, "+".join(["a"] * 100), "a"), (100, 1))

    def test_functions(self):
        row = UNITS + "fn g() = 3 * km; fn sub(x, y) = x - y; fn div(a, b) = a / b; fn six(a, b, c, d, e, f) = " + (
            "a * 100000 + b * 10000 + c * 1000 + d * 100 + e * 10 + f; ")
        self.assertEqual(value_of(row, "g()", "m"), (3000, 1))
        self.assertEqual(value_of(row, "sub(5, 3)"), (2, 1))
        self.assertEqual(value_of(row, "sub(3 * m, km)", "m"), (-997, 1))
        self.assertEqual(value_of(row, "div(1, 3) + div(2, 3)"), (1, 1))
        self.assertEqual(value_of(row, "six(1, 2, 3, 4, 5, 6)"), (123456, 1))
        self.assertEqual(value_of(row, "sub(sub(9, 1), sub(sub(7, 2), 4))"), (7, 1))

    def test_functions_of_functions(self):
        row = "fn sq(x) = x * x; fn add(x, y) = x + y; fn norm(x, y) = add(sq(x), sq(y)); fn f(y, x) = norm(x, 2 * y); "
        self.assertEqual(value_of(row, "norm(3, 4)"), (25, 1))
        self.assertEqual(value_of(row, "f(1, 3)"), (13, 1))
        self.assertEqual(value_of(row, "sq(sq(sq(2)))"), (256, 1))
        self.assertEqual(value_of(row, "add(norm(1, 2), f(sq(2), add(1, 1)))"), (73, 1))

    def test_a_parameter_is_its_own_where_a_later_item_has_its_name(self):
        self.assertEqual(value_of("fn f(m) = m * 2; unit m;", "f(3)"), (6, 1))
        self.assertEqual(value_of("fn f(a) = a * 2; let a = 7;", "f(3) * a"), (42, 1))
        self.assertEqual(value_of("fn f(f) = f + 1;", "f(3)"), (4, 1))
        self.assertEqual(value_of("fn f(g) = g + 1; fn g(x) = f(x) * 10;", "g(3)"), (40, 1))

    def test_a_parameter_is_not_seen_in_what_is_called(self):
        self.assertEqual(value_of("fn f(x) = x * 2; fn g(x) = f(x + 1) * 10 + x;", "g(3)"), (83, 1))
        self.assertEqual(value_of("let a = 5; fn f(x) = a * x; fn g(b, x) = f(b) + x;", "g(2, 1)"), (11, 1))

    def test_what_a_call_is_made_with_is_worked_out_even_if_it_is_not_used(self):
        row = "fn one(x) = 1; fn first(x, y) = x; "
        self.assertEqual(value_of(row, "one(1 / 0)"), -33)
        self.assertEqual(value_of(row, "first(1, %s * 2)" % MOST_TEXT), -75)

    def test_nothing_in_any_unit(self):
        for measure in ("m", "s", "km / s", "3", "m ^ -9"):
            with self.subTest(measure=measure):
                self.assertEqual(value_of(UNITS, "0", measure), (0, 1))
                self.assertEqual(value_of(UNITS + "let z = 0;", "z", measure), (0, 1))
                self.assertEqual(value_of(UNITS, "-0 * 5", measure), (0, 1))


class Together(unittest.TestCase):
    def test_what_does_not(self):
        for formula, measure in (
            ("m", "s"), ("1", "m"), ("m", "1"), ("km", "m ^ 2"), ("m * s", "m / s"), ("0 ^ 2", "m"), ("m ^ 3", "0 ^ 2"),
            ("0 ^ 2 * m", "s ^ 2"), ("1", "km * s"),
        ):
            with self.subTest(formula=formula, measure=measure):
                self.assertEqual(value_of(UNITS, formula, measure), -61)

    def test_each_has_places_of_its_own(self):
        self.assertEqual(value_of(UNITS, "0 * m", "0 * s"), -33)
        self.assertEqual(value_of(UNITS, "0 / 0 + m", "m"), -33)
        self.assertEqual(value_of(UNITS, "0 ^ 2", "0 ^ 2 * m"), -61)
        self.assertEqual(value_of(UNITS, "0 ^ 2", "m ^ 4"), (0, 1))
        self.assertEqual(value_of(UNITS, "0 ^ 2", "0 ^ 3 * m"), -33)

    def test_before_anything_is_worked_out(self):
        self.assertEqual(value_of(UNITS, "1 / 0", "m"), -33)
        self.assertEqual(value_of(UNITS, "1 / 0 + 1", "m"), -61)
        self.assertEqual(value_of(UNITS, "m / 0 + m", "s"), -61)
        self.assertEqual(value_of(UNITS, MOST_TEXT + " * 2", "m"), -61)
        self.assertEqual(value_of(UNITS, "m", "1 / (1 - 1)"), -61)

    def test_places_together(self):
        zeros = ["*".join(["0"] * count) for count in range(26)]
        self.assertEqual(value_of(UNITS, zeros[23], "m"), (0, 1))
        self.assertEqual(value_of(UNITS, zeros[24], "m"), (0, 1))
        self.assertEqual(value_of(UNITS, zeros[25], "m"), -28)
        for one, other, code in ((12, 12, -33), (23, 1, -33), (1, 23, -33), (12, 13, -28), (24, 1, -28), (1, 24, -28)):
            with self.subTest(one=one, other=other):
                self.assertEqual(value_of(UNITS, zeros[one], zeros[other]), code)

    def test_only_places_that_are_left_count(self):
        self.assertEqual(value_of(UNITS, "+".join(["0"] * 24), "+".join(["0"] * 24) + "+m"), (0, 1))
        self.assertEqual(value_of(UNITS, "+".join(["0"] * 24), "+".join(["0"] * 24)), -33)

    def test_too_many_places_before_what_does_not_go_together(self):
        self.assertEqual(value_of(UNITS, "(" + "*".join(["0"] * 13) + ")^2", "(" + "*".join(["0"] * 11) + ")^2*m"), -61)
        self.assertEqual(value_of(UNITS, "(" + "*".join(["0"] * 13) + ")^2", "(" + "*".join(["0"] * 12) + ")^2*m"), -28)

    def test_exponents_of_the_equation(self):
        at_bound = repeated_power("m", [8] * 6 + [4])
        self.assertEqual(value_of(UNITS, at_bound, at_bound), (1, 1))
        self.assertEqual(value_of(UNITS, at_bound + "*m", at_bound + "*m"), (1, 1))
        self.assertEqual(value_of(UNITS, at_bound, "1"), -61)
        self.assertEqual(value_of(UNITS, at_bound, "m"), -61)
        self.assertEqual(value_of(UNITS, at_bound, "m^-1"), -22)
        self.assertEqual(value_of(UNITS, "m^-1", at_bound), -22)
        self.assertEqual(value_of(UNITS, "0", at_bound), (0, 1))
        self.assertEqual(value_of(UNITS, "0", at_bound + "*m"), -22)


class LowestTerms(unittest.TestCase):
    def test_the_sign_stands_above_the_line(self):
        self.assertEqual(asked(value("1", "-3")), [[2, -1, 3]])
        self.assertEqual(asked(value("-1", "3")), [[2, -1, 3]])
        self.assertEqual(asked(value("-1", "-3")), [[2, 1, 3]])
        self.assertEqual(asked(value("0", "-3")), [[2, 0, 1]])

    def test_the_division(self):
        self.assertEqual(value_of("", "6", "4"), (3, 2))
        self.assertEqual(value_of("", "2 / 3", "4 / 9"), (3, 2))
        self.assertEqual(value_of("", "0.75", "0.5"), (3, 2))
        self.assertEqual(value_of("", "100", "0.01"), (10000, 1))

    def test_the_bounds(self):
        self.assertEqual(value_of("", MOST_TEXT), (MOST, 1))
        self.assertEqual(value_of("", "-" + MOST_TEXT), (-MOST, 1))
        self.assertEqual(value_of("", "1", MOST_TEXT), (1, MOST))
        self.assertEqual(value_of("", "-1", MOST_TEXT), (-1, MOST))
        self.assertEqual(value_of("", MOST_TEXT + " - 1", MOST_TEXT), (MOST - 1, MOST))
        self.assertEqual(value_of("", MOST_TEXT, "-" + MOST_TEXT), (-1, 1))

    def test_one_beyond(self):
        for formula in (
            MOST_TEXT + " + 1", "1 + " + MOST_TEXT, "-" + MOST_TEXT + " - 1", MOST_TEXT + " - -1", "(2 ^ 9) ^ 7",
            "(2 ^ 7) ^ 9", "(-2 ^ 7) ^ 9", "(2 ^ -7) ^ 9", "(2 ^ 7) ^ -9", "(2 ^ -7) ^ -9", "(1 / 2 ^ 7) ^ 9",
            MOST_TEXT + " * 2", MOST_TEXT + " * -2", "1 / %s / 2" % MOST_TEXT, "1 / (-%s) / 2" % MOST_TEXT,
            MOST_TEXT + " / 0.5", "1 / %s * 0.5" % MOST_TEXT, "1 / %s + 0.5" % MOST_TEXT, "0.5 - 1 / %s" % MOST_TEXT,
            MOST_TEXT + " + 0.5", "(3 / 4 ^ 8) ^ 4", "10 ^ 9 * 10 ^ 9 * 10",
        ):
            with self.subTest(formula=formula):
                self.assertEqual(value_of("", formula), -75)

    def test_just_within(self):
        for formula, over, under in (
            ("(2 ^ 7) ^ 8 * 2 ^ 6", 2 ** 62, 1), ("(-2 ^ 7) ^ 8 * -2 ^ 5 * 2", -2 ** 62, 1),
            ("(2 ^ 7) ^ -8 / 2 ^ 6", 1, 2 ** 62), ("10 ^ 9 * 10 ^ 9 * 9", 9 * 10 ** 18, 1),
            ("3037000499 ^ 2", 3037000499 ** 2, 1), ("3037000499 ^ -2", 1, 3037000499 ** 2),
            ("%s / 7 * 7" % MOST_TEXT, MOST, 1), ("1 - 1 / %s" % MOST_TEXT, MOST - 1, MOST),
            ("-1 - 1 + 1 / %s * 0" % MOST_TEXT, -2, 1),
        ):
            with self.subTest(formula=formula):
                self.assertEqual(value_of("", formula), (over, under))
        self.assertEqual(value_of("", "3037000500 ^ 2"), -75)
        self.assertEqual(value_of("", "3037000500 ^ -2"), -75)

    def test_only_in_lowest_terms_a_fraction_may_be_too_large(self):
        self.assertEqual(value_of("", "(%s / 2) * (2 / %s)" % (MOST_TEXT, MOST_TEXT)), (1, 1))
        self.assertEqual(value_of("", "%s / 2 + %s / 2" % (MOST_TEXT, MOST_TEXT)), (MOST, 1))
        self.assertEqual(value_of("", "(1 / %s) / (2 / %s)" % (MOST_TEXT, MOST_TEXT)), (1, 2))
        self.assertEqual(value_of("", "1 / %s - 1 / %s" % (MOST_TEXT, MOST_TEXT)), (0, 1))

    def test_what_is_beyond_on_the_way_stops(self):
        self.assertEqual(value_of("", "%s * 2 / 2" % MOST_TEXT), -75)
        self.assertEqual(value_of("", "%s + 1 - 1" % MOST_TEXT), -75)
        self.assertEqual(value_of("", "0 * (%s + 1)" % MOST_TEXT), -75)

    def test_what_is_compared_may_be_large(self):
        self.assertEqual(value_of("", "if 1 / %s < 1 / (%s - 1) then 1 else 2" % (MOST_TEXT, MOST_TEXT)), (1, 1))
        self.assertEqual(value_of("", "if -%s < %s then 1 else 2" % (MOST_TEXT, MOST_TEXT)), (1, 1))

    def test_the_division_of_the_two(self):
        self.assertEqual(value_of("", MOST_TEXT, "0.5"), -75)
        self.assertEqual(value_of("", "-" + MOST_TEXT, "0.5"), -75)
        self.assertEqual(value_of("", "1 / " + MOST_TEXT, "2"), -75)
        self.assertEqual(value_of("", "1 / " + MOST_TEXT, "1 / " + MOST_TEXT), (1, 1))
        self.assertEqual(value_of("", "2 / " + MOST_TEXT, "2"), (1, MOST))
        self.assertEqual(value_of("", MOST_TEXT, "1 / 2 ^ 9 * 2 ^ 9"), (MOST, 1))
        self.assertEqual(value_of(UNITS, "1000000000 * 9 * km", "m / 1000000"), (9 * 10 ** 18, 1))
        self.assertEqual(value_of(UNITS, "1000000000 * 10 * km", "m / 1000000"), -75)


class DividedByNothing(unittest.TestCase):
    def test_it_stops(self):
        for formula in (
            "1 / 0", "0 / 0 + 1", "1 / (1 - 1)", "m / 0 / m + 1", "1 / (m - m) * m", "0 ^ -1 + 1", "(1 - 1) ^ -9",
            "1 + 2 * (3 - 4 / (2 - 2))", "bad() + 1", "part(3, 3)", "1 / (0 * 1)", "1 / -0 + 1", "1 / 0.000 + 1",
        ):
            with self.subTest(formula=formula):
                row = UNITS + "fn bad() = 1 / 0; fn part(x, y) = 1 / (x - y); "
                self.assertEqual(value_of(row, formula, "1"), -33)

    def test_the_measure_is_worth_nothing(self):
        self.assertEqual(value_of("", "1", "1 - 1"), -33)
        self.assertEqual(value_of("", "0", "0"), -33)
        self.assertEqual(value_of("", "1", "0"), -33)
        self.assertEqual(value_of(UNITS, "km", "km - 1000 * m"), -33)

    def test_the_measure_divides_by_nothing(self):
        self.assertEqual(value_of("", "1", "1 / 0 + 1"), -33)


class WhichFirst(unittest.TestCase):
    # What is refused before anything is worked out, by its number.
    UNIT_REFUSED = [
        ("1" * 8200, -28), ("!", -71), ("", -71), ("1;", -71), ("q", -22), ("1 + m", -61), ("*".join(["0"] * 25), -28),
        ("(" + repeated_power("m", [8] * 10) + ")^2", -75),
    ]
    STOPS = [("1 / 0 + 1", -33), (MOST_TEXT + " * 2", -75), ("f16(1)", -62)]
    TWICE = "fn f0(x) = x + 1;" + "".join(["fn f%d(x) = f%d(x) + f%d(x);" % (k, k - 1, k - 1) for k in range(1, 17)])

    def test_the_first_one_before_the_second(self):
        for formula, code in self.UNIT_REFUSED:
            for measure, other in self.UNIT_REFUSED + self.STOPS + [("1", None), ("m", None)]:
                with self.subTest(code=code, other=other):
                    self.assertEqual(value_of(UNITS + self.TWICE, formula, measure), code)

    def test_the_second_one_before_what_they_are_together(self):
        for measure, code in self.UNIT_REFUSED:
            for formula in ("1", "m", "1 / 0", MOST_TEXT + " * 2", "*".join(["0"] * 24)):
                with self.subTest(formula=formula, code=code):
                    self.assertEqual(value_of(UNITS, formula, measure), code)

    def test_what_stops_the_first_one_before_the_second(self):
        for formula, code in self.STOPS:
            for measure, other in self.STOPS + [("0", None), ("2", None)]:
                with self.subTest(code=code, other=other):
                    self.assertEqual(value_of(self.TWICE, formula, measure), code)

    def test_what_stops_the_second_one_before_the_division(self):
        for measure, code in self.STOPS:
            for formula in ("1", "0", MOST_TEXT):
                with self.subTest(formula=formula, code=code):
                    self.assertEqual(value_of(self.TWICE, formula, measure), code)

    def test_from_left_to_right(self):
        beyond = MOST_TEXT + " * 2"
        for formula, code in (
            ("1 / 0 + %s", -33), ("%s + 1 / 0", -75), ("(%s) / 0", -75), ("1 / 0 * (%s)", -33),
            ("pair(1 / 0, %s)", -33), ("pair(%s, 1 / 0)", -75),
            ("if 1 / 0 < %s then 1 else 1", -33), ("if %s < 1 / 0 then 1 else 1", -75),
            ("if 1 / 0 < 1 then %s else %s", -33), ("if 1 < 2 then %s else 1 / 0", -75), ("bad() * (%s)", -33),
            ("(%s) * bad()", -75), ("pair(bad(), %s)", -33), ("(1 / 0 - 1) ^ 9 - %s", -33),
        ):
            with self.subTest(formula=formula):
                row = "fn pair(x, y) = 1; fn bad() = 1 / 0; "
                self.assertEqual(value_of(row, formula.replace("%s", beyond)), code)

    def test_bytes_of_each_with_the_sheet(self):
        self.assertEqual(value_of("unit m;", filled_up("m", 7993), filled_up("m", 7993)), (1, 1))
        self.assertEqual(value_of("unit m;", filled_up("m", 7993), filled_up("m", 7994)), -28)
        self.assertEqual(value_of("unit m;", filled_up("m", 7994), filled_up("m", 7993)), -28)
        self.assertEqual(value_of("unit m;", filled_up("m", 9000), "q"), -28)
        self.assertEqual(value_of("unit m;", "q", filled_up("m", 9000)), -22)
        self.assertEqual(value_of("unit m;", "", ""), -71)
        self.assertEqual(value_of("unit m;", "m", ""), -71)


class Sheets(unittest.TestCase):
    def test_a_formula_in_a_unit_of_another_sheet(self):
        told = asked(add("unit m;"), value("2 * m", "m"), START, value("2", "m"), value("2", "1"), value("2 * m", "m"))
        self.assertEqual(told, [[0, 1], [2, 2, 1], [0, 0], [0, -22], [2, 2, 1], [0, -22]])

    def test_a_formula_without_a_unit(self):
        told = asked(value("1 / 3", "2"), add("unit m;"), value("1 / 3", "2"), value("1", "m"))
        self.assertEqual(told, [[2, 1, 6], [0, 1], [2, 1, 6], [0, -61]])

    def test_it_changes_nothing(self):
        values = [value("m", "m"), value("m", "1"), value("m", "0 * m")]
        told = asked(add("unit m;"), *values, add("unit s;"), BACK, BACK, BACK)
        self.assertEqual(told, [[0, 1], [2, 1, 1], [0, -61], [0, -33], [0, 2], [0, 7], [0, 0], [0, -2]])

    def test_a_unit_of_a_taken_back_row(self):
        rows = ["unit m;", "let x = 2 * m;", "let x = 3 * m;"]
        told = asked(add(rows[0]), add(rows[1]), value("x", "m"), BACK, value("x", "m"), add(rows[2]), value("x", "m"))
        self.assertEqual(told, [[0, 1], [0, 2], [2, 2, 1], [0, 7], [0, -22], [0, 2], [2, 3, 1]])


if __name__ == "__main__":
    unittest.main()
