"""am_start and am_back, and that what is refused changes nothing."""

import unittest

from tests.asking import BACK, START, add, ask


class Start(unittest.TestCase):
    def test_again_at_the_beginning(self):
        self.assertEqual(ask(START, START), [0, 0])

    def test_again_after_adding(self):
        self.assertEqual(ask(add("unit m;"), START, BACK), [1, 0, -2])

    def test_the_sheet_has_no_bytes_then(self):
        told = ask(add("unit m;"), START, add("let x = m;"), add("unit m;"), BACK, BACK)
        self.assertEqual(told, [1, 0, -22, 1, 0, -2])

    def test_a_full_sheet_is_empty_then(self):
        full = "unit m;" + " " * 8185
        self.assertEqual(ask(add(full), add(" "), START, add(full)), [1, -28, 0, 1])


class Back(unittest.TestCase):
    def test_nothing_was_added(self):
        self.assertEqual(ask(BACK, BACK), [-2, -2])

    def test_the_last_ones_go_one_by_one(self):
        rows = ["unit m;", " \n", "let x = 0;", "fn f() = x + m;"]
        told = ask(*[add(row) for row in rows], BACK, BACK, BACK, BACK, BACK)
        self.assertEqual(told, [1, 1, 2, 3, 19, 9, 7, 0, -2])

    def test_all_that_one_call_added_goes(self):
        self.assertEqual(ask(add("unit m;"), add("unit s; let v = m / s;"), BACK), [1, 3, 7])

    def test_what_was_refused_is_not_taken_back(self):
        told = ask(add("unit m;"), add("let x = 1 + m;"), add("!"), add(""), BACK, BACK)
        self.assertEqual(told, [1, -61, -71, -22, 0, -2])

    def test_taken_back_names_are_free_again(self):
        told = ask(add("unit m;"), add("unit s;"), BACK, add("let x = s;"), add("unit s;"), add("let x = s;"))
        self.assertEqual(told, [1, 2, 7, -22, 2, 3])

    def test_taken_back_marks_are_free_again(self):
        eight = [add("unit u%d;" % k) for k in range(8)]
        self.assertEqual(ask(*eight, add("unit v;"), BACK, add("unit v;"))[8:], [-28, 7 * len("unit u0;"), 8])

    def test_taken_back_bytes_and_tokens_are_free_again(self):
        filler = " " * 8185
        self.assertEqual(ask(add("unit m;"), add(filler), add(" "), BACK, add(filler)), [1, 1, -28, 7, 1])
        tokens = "let x = " + "1*" * 1020 + "1;"
        told = ask(add(tokens), add("unit m;"), add("unit s;"), BACK, add("unit s;"), add("unit m;"))
        self.assertEqual(told, [1, 2, -28, len(tokens), 2, -28])

    def test_a_refused_back_changes_nothing(self):
        self.assertEqual(ask(BACK, add("unit m;"), BACK, BACK, add("unit m;")), [-2, 1, 0, -2, 1])


class RefusedAdding(unittest.TestCase):
    REFUSED = [
        ("", -22),
        ("!", -71),
        ("unit s", -71),
        ("unit s; unit m;", -22),
        ("let s = 1; let x = s + m;", -61),
        ("fn s(a, b, c, d, e, f, g) = 1;", -28),
        ("let s = " + "0*" * 24 + "0;", -28),
        (" " * 8186, -28),
        (" " * 8193, -28),
    ]

    def test_it_changes_nothing(self):
        for row, code in self.REFUSED:
            with self.subTest(row=row[:40]):
                told = ask(add("unit m;"), add(row), add("unit s;"), BACK, BACK, BACK)
                self.assertEqual(told, [1, code, 2, 7, 0, -2])


if __name__ == "__main__":
    unittest.main()
