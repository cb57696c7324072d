"""Long chains of amounts and functions, one made of another, each formula deep."""

import unittest

from tests.asking import BACK, TEXT, add, asked, unit_of, value_of


def deep(inside, count=31):
    return "(" * count + inside + ")" * count


def chain(item, count, first):
    """The first item, then so many with each made of the one before it, by numbers."""
    rows = [first]
    for number in range(1, count):
        rows.append(item.replace("NEW", "c%d" % number).replace("OLD", "c%d" % (number - 1)))
    return "".join(rows)


class Amounts(unittest.TestCase):
    def check(self, made, comes, row="unit m; "):
        """62 amounts behind the unit, 63 items in all: the formula is the 64th."""
        sheet = row + chain("let NEW = " + made + ";", 62, "let c0 = m;")
        self.assertEqual(unit_of(sheet, "c61"), (0, {0: 1}))
        self.assertEqual(value_of(sheet, "c61", "m"), comes)
        self.assertEqual(value_of(sheet, "m", "c61"), (comes[1] * (1 if comes[0] > 0 else -1), abs(comes[0])))

    def test_one_of_another(self):
        self.check("OLD", (1, 1))

    def test_added(self):
        self.check("m + OLD", (62, 1))
        self.check("OLD - m", (-60, 1))

    def test_multiplied(self):
        self.check("OLD * 2", (2 ** 61, 1))
        self.check("0.5 * OLD", (1, 2 ** 61))

    def test_behind_then_and_else(self):
        self.check("if 0 < m then OLD else m", (1, 1))
        self.check("if m < 0 then m else OLD + m", (62, 1))

    def test_in_parentheses(self):
        # Of tokens there are 2,048 at most: 12 parentheses to either side, 62 times, are within.
        self.check(deep("OLD", 12), (1, 1))

    def test_behind_minus(self):
        self.check("-" * 25 + "OLD", (-1, 1))

    def test_thirty_two_deep_as_many_as_there_is_room_for(self):
        sheet = "unit m; " + chain("let NEW = " + deep("OLD") + ";", 28, "let c0 = " + deep("3 * m") + ";")
        self.assertEqual(value_of(sheet, deep("c27"), "m"), (3, 1))
        sheet = "unit m; " + chain("let NEW = m + " + "-" * 31 + "OLD;", 52, "let c0 = 3 * m;")
        self.assertEqual(value_of(sheet, "c51", "m"), (-2, 1))
        self.assertEqual(value_of(sheet, "c50", "m"), (3, 1))


class Functions(unittest.TestCase):
    def check(self, body, given, comes):
        """63 functions, each calling the one before it."""
        sheet = chain("fn NEW(x) = " + body + ";", 63, "fn c0(x) = x;")
        self.assertEqual(value_of(sheet, "c62(" + given + ")"), comes)

    def test_one_of_another(self):
        self.check("OLD(x)", "7", (7, 1))

    def test_with_something_before_and_behind(self):
        self.check("1 + OLD(x) + 2", "7", (7 + 62 * 3, 1))
        self.check("1 - OLD(x + 1)", "7", (69, 1))
        self.check("OLD(x * 2)", "0.5", (2 ** 61, 1))

    def test_deep(self):
        self.check(deep("OLD(x)", 8), "7", (7, 1))
        self.check("-" * 17 + "OLD(-x)", "7", (7, 1))
        self.check("if x < 0 then x else OLD(x)", "7", (7, 1))

    def test_calls_within_calls(self):
        sheet = chain("fn NEW(x) = OLD(OLD(x));", 13, "fn c0(x) = x + 1;")
        self.assertEqual(value_of(sheet, "c12(0 * 1)"), (4096, 1))
        often = "OLD(" * 31 + "x" + ")" * 31
        sheet = chain("fn NEW(x) = " + often + ";", 3, "fn c0(x) = x + 1;")
        self.assertEqual(value_of(sheet, "c2(" * 20 + "7" + ")" * 20), (20 * 31 * 31 + 7, 1))

    def test_many_parameters(self):
        sheet = chain("fn NEW(a, b, c, d, e, f) = OLD(b, c, d, e, f, a) * 2;", 40, "fn c0(a, b, c, d, e, f) = a - b;")
        self.assertEqual(value_of(sheet, "c39(1, 2, 4, 8, 16, 32)"), ((8 - 16) * 2 ** 39, 1))


class LongFormulas(unittest.TestCase):
    def test_signs_side_by_side(self):
        self.assertEqual(value_of("", "1*" * 1000 + "2"), (2, 1))
        self.assertEqual(value_of("", "2/" * 50 + "2"), (1, 2 ** 49))
        self.assertEqual(value_of("", "-" + "1+" * 256 + "1"), (255, 1))
        self.assertEqual(value_of("let a = " + "1+" * 256 + "1;", "a-" * 100 + "a"), (-99 * 257, 1))

    def test_an_if_behind_else_so_often_as_may_be(self):
        formula = "31"
        for number in reversed(range(31)):
            formula = "if x < %d then %d else %s" % (number + 1, number, formula)
        self.assertEqual(
            [value_of("fn f(x) = " + formula + ";", "f(%d)" % number) for number in (1, 17, 30, 31, 40)],
            [(1, 1), (17, 1), (30, 1), (31, 1), (31, 1)])


class ManyRows(unittest.TestCase):
    def test_sixty_three_rows_and_all_back(self):
        rows = ["unit m;"] + ["let c0 = m;"] + ["let c%d = c%d + m;" % (k, k - 1) for k in range(1, 40)]
        told = asked(*[add(row) for row in rows], *[BACK] * len(rows), TEXT)
        self.assertEqual(told[len(rows) - 1], [0, 41])
        self.assertEqual(told[-2:], [[0, 0], [3, 0]])


if __name__ == "__main__":
    unittest.main()
