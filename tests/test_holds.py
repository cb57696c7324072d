"""What holds over the whole program, tried on formulas that are put together at random, the same each time."""

import random
import unittest

from tests.asking import BACK, TEXT, add, asked, unit, unit_of, value, value_of

NUMBERS = ["0", "1", "2", "3", "0.5", "7", "0.0", "1.25", "10"]
UNITS = "unit m; unit s; "


class Maker:
    def __init__(self, seed):
        self.source = random.Random(seed)

    def pick(self, row):
        return self.source.choice(row)

    def formula(self, depth, names, functions):
        """A formula, often one that doesn't go together; functions are pairs, a name and how many parameters."""
        if depth == 0 or self.source.random() < 0.2:
            return self.pick(NUMBERS + names * 4)
        one, other = [self.formula(depth - 1, names, functions) for count in range(2)]
        made = [
            "(%s + %s)" % (one, other), "(%s - %s)" % (one, other), "(%s) * (%s)" % (one, other),
            "(%s) / (%s)" % (one, other), "(%s) ^ %s" % (one, self.pick(["2", "3", "-1", "-2"])), "-(%s)" % one,
            "(if %s < %s then %s else %s)" % (one, other, other, one), "(%s + %s)" % (one, one),
        ]
        if functions:
            name, count = self.pick(functions)
            made.append("%s(%s)" % (name, ", ".join([one, other, one][:count])))
        return self.pick(made)

    def sheet(self, items):
        """Rows that were taken one by one, with the names of amounts and the functions."""
        rows = []
        names = ["m", "s"]
        functions = []
        while len(rows) < items:
            name = "n%d" % len(rows)
            if self.source.random() < 0.5:
                row = "let %s = %s; " % (name, self.formula(2, names, functions))
                parameters = None
            else:
                parameters = ["x", "y", "z"][:self.source.randint(1, 3)]
                row = "fn %s(%s) = %s; " % (
                    name, ", ".join(parameters), self.formula(3, names + parameters * 2, functions))
            if asked(add(UNITS + "".join(rows)), add(row))[1][1] < 0:
                continue
            rows.append(row)
            if parameters is None:
                names.append(name)
            else:
                functions.append((name, len(parameters)))
        return "".join(rows), names, functions


def product_text(marks):
    """The product of m and s with these exponents, which are not far from 0."""
    text = "1"
    for name, exponent in (("m", marks[0]), ("s", marks[1])):
        text += (("*" if exponent > 0 else "/") + name) * abs(exponent)
    return text


class Holds(unittest.TestCase):
    SCALED = [
        "unit m0; unit s; let m = 1000 * m0; ", "unit m; unit s0; let s = 3 / 7 * s0; ",
        "unit s0; unit m0; let m = 0.1 * m0; let s = 60 * s0; ",
        "unit x0; let m = 2 * x0; unit x1; let s = 5 * x1 ^ -2; ",
    ]

    def test_whatever_the_base_units_are(self):
        """Each fraction is the same with other base units; what goes together is never refused but for 0 and size."""
        told = 0
        for seed in range(120):
            maker = Maker(seed)
            rows, names, functions = maker.sheet(4)
            formula = maker.formula(3, names, functions)
            answer = asked(add(UNITS + rows), unit(formula))[1]
            if answer[0] != 1 or answer[1] > 0 or max(map(abs, answer[3:5])) > 12:
                continue
            measure = maker.pick(["", "3 * ", "-0.7 * "]) + product_text(answer[3:5])
            with self.subTest(seed=seed, formula=formula, measure=measure):
                first = value_of(UNITS + rows, formula, measure)
                self.assertTrue(isinstance(first, tuple) or first in (-33, -75), first)
                if not isinstance(first, tuple):
                    continue
                told += 1
                for units in self.SCALED:
                    self.assertIn(value_of(units + rows, formula, measure), (first, -75))
        self.assertGreater(told, 25)

    def test_a_kind_is_all_that_can_be_told(self):
        """What goes together with the function's formula in the place of its call goes together with the call."""
        together = 0
        for seed in range(400):
            maker = Maker(1000 + seed)
            body = maker.formula(3, ["m", "xx", "xx", "yy"], [])
            one, other = maker.pick(["m", "s", "1", "m ^ 2", "m / s"]), maker.pick(["m", "s", "1", "s ^ 3"])
            written = "(" + body.replace("xx", "(" + one + ")").replace("yy", "(" + other + ")") + ")"
            comes = unit_of(UNITS, written)
            if not isinstance(comes, tuple):
                continue
            together += 1
            with self.subTest(body=body, one=one, other=other):
                row = UNITS + "fn f(xx, yy) = " + body + "; "
                called = unit_of(row, "f(%s, %s)" % (one, other))
                self.assertEqual(called[0], comes[0])
                if comes[0] == 0:
                    self.assertEqual(called, comes)
                self.assertEqual(
                    value_of(row, "f(%s, %s)" % (one, other), product_text(marks_of(comes))),
                    value_of(row, written, product_text(marks_of(comes))))
        self.assertGreater(together, 60)

    def test_a_formula_is_worth_what_an_amount_of_it_is(self):
        for seed in range(60):
            maker = Maker(5000 + seed)
            rows, names, functions = maker.sheet(3)
            formula = maker.formula(3, names, functions)
            row = UNITS + rows
            with self.subTest(seed=seed, formula=formula):
                added = asked(add(row), add("let new = " + formula + ";"))[1][1]
                comes = unit_of(row, formula)
                if added < 0:
                    self.assertEqual(comes, added)
                    continue
                longer = row + "let new = " + formula + ";"
                self.assertEqual(unit_of(longer, "new"), comes)
                for measure in ("m", "1", formula):
                    self.assertEqual(value_of(longer, "new", measure), value_of(row, formula, measure))

    def test_what_is_put_behind_changes_nothing_of_what_is_before(self):
        for seed in range(20):
            maker = Maker(9000 + seed)
            rows, names, functions = maker.sheet(4)
            formula = maker.formula(2, names, functions)
            calls = [unit(formula), value(formula, "m"), value(formula, formula), TEXT]
            before = asked(add(UNITS + rows), *calls)[1:]
            told = asked(add(UNITS + rows), add("unit k; let c = k * m; fn d(x) = x + c; "), *calls, BACK, *calls)
            self.assertEqual(told[2:5], before[:3])
            self.assertEqual(told[7:], before)


def marks_of(comes):
    return [comes[1].get(0, 0), comes[1].get(1, 0)]


if __name__ == "__main__":
    unittest.main()
