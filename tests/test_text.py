"""am_text: the sheet's bytes, and that nothing but adding, taking back and starting changes them."""

import unittest

from tests.asking import BACK, START, TEXT, add, asked, filled_up, unit, value


def told(row):
    """The answer that a sheet of these bytes has."""
    return [3, len(row)] + list(row.encode("ascii"))


class Text(unittest.TestCase):
    ONE = "unit m;\n let  x = 2*m ;"
    OTHER = "\n\nfn f( x2 ) = x2 + x; "

    def test_at_the_beginning(self):
        self.assertEqual(asked(TEXT), [[3, 0]])

    def test_after_adding(self):
        self.assertEqual(asked(add(self.ONE), TEXT), [[0, 2], told(self.ONE)])
        self.assertEqual(asked(add(self.ONE), add(self.OTHER), TEXT)[2], told(self.ONE + self.OTHER))

    def test_blanks_alone(self):
        self.assertEqual(asked(add(" \n"), TEXT), [[0, 0], told(" \n")])

    def test_after_taking_back(self):
        answers = asked(add(self.ONE), add(self.OTHER), BACK, TEXT, BACK, TEXT, BACK, TEXT)
        self.assertEqual(answers[2:], [[0, len(self.ONE)], told(self.ONE), [0, 0], [3, 0], [0, -2], [3, 0]])

    def test_taken_back_and_added_otherwise(self):
        answers = asked(add(self.ONE), add(self.OTHER), BACK, add("unit s;"), TEXT, BACK, add(self.OTHER), TEXT)
        self.assertEqual([answers[4], answers[7]], [told(self.ONE + "unit s;"), told(self.ONE + self.OTHER)])

    def test_after_starting_again(self):
        self.assertEqual(asked(add(self.ONE), START, TEXT), [[0, 2], [0, 0], [3, 0]])

    def test_after_a_refusal(self):
        refused = [
            (add(""), -22), (add("!"), -71), (add("unit m;"), -22), (add("let y = x + 1;"), -61),
            (add(" " * 8192), -28), (add(" " * 8193), -28),
            (unit(""), -71), (unit("1;"), -71), (unit("q"), -22), (unit("1 + m"), -61),
            (unit("1" * 9000), -28), (value("m", "1"), -61), (value("m", "0"), -33), (value("1 / 0", "1"), -33),
            (value("10 ^ 9 * 10 ^ 9 * 10", "1"), -75), (value("x", ""), -71),
        ]
        for call, code in refused:
            with self.subTest(code=code):
                self.assertEqual(asked(add(self.ONE), call, TEXT), [[0, 2], [0, code], told(self.ONE)])

    def test_after_asking(self):
        answers = asked(add(self.ONE), unit("x * m"), TEXT, value("x", "m"), TEXT, TEXT)
        self.assertEqual([answers[2], answers[4], answers[5]], [told(self.ONE)] * 3)

    def test_a_full_sheet(self):
        row = filled_up("unit m;", 8192)
        self.assertEqual(asked(add(row), TEXT, add(" "), TEXT), [[0, 1], told(row), [0, -28], told(row)])

    def test_byte_for_byte_after_adding_and_taking_back(self):
        rows = ["unit m;", " ", "\n", "let a = 1;", "fn f(x) = x;", "let b = f(a) ;", "  let c=b*m;"]
        calls = [call for row in rows for call in (add(row), TEXT)] + [BACK, TEXT] * len(rows)
        texts = asked(*calls)[1::2]
        sheets = ["".join(rows[:count]) for count in range(len(rows) + 1)]
        self.assertEqual(texts, [told(sheet) for sheet in sheets[1:] + sheets[-2::-1]])


if __name__ == "__main__":
    unittest.main()
