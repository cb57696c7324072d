"""am_add: how many bytes, and how they are parted into tokens."""

import unittest

from tests.asking import add, added, ask, filled_up


class Bytes(unittest.TestCase):
    def test_none(self):
        self.assertEqual(added(""), -22)
        self.assertEqual(added("unit m;", ""), -22)

    def test_none_behind_a_full_sheet(self):
        self.assertEqual(added(filled_up("unit m;", 8192), ""), -22)

    def test_one(self):
        self.assertEqual(added(" "), 0)
        self.assertEqual(added("a"), -71)

    def test_at_the_bound_of_a_row(self):
        self.assertEqual(added(filled_up("unit m;", 8191)), 1)
        self.assertEqual(added(filled_up("unit m;", 8192)), 1)
        self.assertEqual(added(filled_up("unit m;", 8193)), -28)
        self.assertEqual(added(filled_up("unit m;", 9000)), -28)

    def test_a_row_that_is_too_long_is_not_looked_at(self):
        self.assertEqual(added("!" * 8192), -71)
        self.assertEqual(added("!" * 8193), -28)

    def test_at_the_bound_of_the_sheet(self):
        self.assertEqual(added("unit m;", filled_up("unit s;", 8184)), 2)
        self.assertEqual(added("unit m;", filled_up("unit s;", 8185)), 2)
        self.assertEqual(added("unit m;", filled_up("unit s;", 8186)), -28)

    def test_a_sheet_that_would_be_too_long_is_not_looked_at(self):
        self.assertEqual(added("unit m;", "!" * 8185), -71)
        self.assertEqual(added("unit m;", "!" * 8186), -28)

    def test_byte_by_byte_nothing_is_a_sheet(self):
        self.assertEqual(ask(*[add(byte) for byte in "unit m;"]), [-71] * 4 + [0] + [-71] * 2)

    def test_blanks_alone_are_a_sheet_without_items(self):
        self.assertEqual(added(" \n\n "), 0)
        self.assertEqual(added("unit m;", "\n"), 1)


class WhichBytes(unittest.TestCase):
    def test_each_byte_between_items(self):
        for byte in range(256):
            with self.subTest(byte=byte):
                row = list(b"unit m;") + [byte] + list(b"unit s;")
                self.assertEqual(added(row), 2 if byte in (10, 32) else -71)

    def test_each_byte_in_a_name(self):
        inside = b"abcdefghijklmnopqrstuvwxyz0123456789_"
        for byte in range(256):
            with self.subTest(byte=byte):
                row = list(b"unit m") + [byte] + list(b"m;")
                self.assertEqual(added(row), 1 if byte in inside else -71)

    def test_each_byte_begins_a_name(self):
        for byte in range(256):
            with self.subTest(byte=byte):
                row = list(b"unit ") + [byte] + list(b"_m;")
                self.assertEqual(added(row), 1 if byte in b"abcdefghijklmnopqrstuvwxyz" else -71)


class Names(unittest.TestCase):
    def test_at_the_bound(self):
        self.assertEqual(added("unit abcdefghijklmno;"), 1)
        self.assertEqual(added("unit abcdefghijklmnop;"), 1)
        self.assertEqual(added("unit abcdefghijklmnopq;"), -71)

    def test_digits_and_underscores_count(self):
        self.assertEqual(added("unit a23456789_123456;"), 1)
        self.assertEqual(added("unit a23456789_1234567;"), -71)

    def test_names_of_sixteen_bytes_differ_in_the_last(self):
        self.assertEqual(added("unit abcdefghijklmnop; unit abcdefghijklmnoq;"), 2)
        self.assertEqual(added("unit abcdefghijklmnop; unit abcdefghijklmnop;"), -22)

    def test_words_are_no_names(self):
        for word in ("unit", "let", "fn", "if", "then", "else"):
            with self.subTest(word=word):
                self.assertEqual(added("unit " + word + ";"), -71)
                self.assertEqual(added("let " + word + " = 1;"), -71)
                self.assertEqual(added("fn f(" + word + ") = 1;"), -71)
                self.assertEqual(added("let x = " + word + ";"), -71)

    def test_a_name_is_as_long_as_it_can_be(self):
        for name in ("units", "lets", "fn_", "iff", "then2", "elsewhere", "unitm"):
            with self.subTest(name=name):
                self.assertEqual(added("unit " + name + ";"), 1)
        self.assertEqual(added("unitm;"), -71)
        self.assertEqual(added("letx = 1;"), -71)


class Numbers(unittest.TestCase):
    GOOD = ["0", "7", "007", "0.0", "1.5", "00.10", "123456789012345", "12345678.1234567", "1.23456789012345"]
    BAD = [
        "1234567890123456", "12345678.12345678", "1.234567890123456", "123456789012345.6",
        "1.", ".5", ".", "1 .5", "1. 5", "1.5.2", "1..5", "1.a", "0.", "1 5", "1a", "1_", "1e5",
    ]

    def test_good_ones(self):
        for number in self.GOOD:
            with self.subTest(number=number):
                self.assertEqual(added("let x = " + number + ";"), 1)

    def test_bad_ones(self):
        for number in self.BAD:
            with self.subTest(number=number):
                self.assertEqual(added("let x = " + number + ";"), -71)


class Tokens(unittest.TestCase):
    def test_they_need_nothing_between_them(self):
        self.assertEqual(added("unit m;let x=if 1<2then 3else 4;fn f(a,b)=-a*b^-2;"), 3)

    def test_blanks_and_newlines_between_them(self):
        self.assertEqual(added("  unit\nm\n;\n let x = f\n( 1 );"), -22)
        self.assertEqual(added("fn f ( a ,\nb ) = - a ^ - 2 * b ; let x = f\n( 1 , 2 ) ;"), 2)

    def test_none_goes_on_in_the_next_row(self):
        self.assertEqual(ask(add("unit ab"), add("unit a;"), add("b;")), [-71, 1, -71])

    def test_at_the_bound(self):
        of_2046 = "unit m;" + "let x = " + "1*" * 1019 + "1;"
        self.assertEqual(added(of_2046), 2)
        of_2048 = "unit m;" + "let x = " + "1*" * 1020 + "1;"
        self.assertEqual(added(of_2048), 2)
        of_2049 = "let x = " + "1*" * 1022 + "1;"
        self.assertEqual(added(of_2049), -28)

    def test_those_of_all_rows_count(self):
        of_2045 = "let x = " + "1*" * 1020 + "1;"
        self.assertEqual(ask(add(of_2045), add("unit m;"), add(" "), add("unit s;")), [1, 2, 2, -28])

    def test_what_cannot_be_parted_comes_before_too_many(self):
        self.assertEqual(added(";" * 2049), -28)
        self.assertEqual(added(";" * 2049 + "!"), -71)
        self.assertEqual(added(";" * 2049 + " 1."), -71)
        self.assertEqual(added("let x = " + "1*" * 1020 + "1;", "unit abcdefghijklmnopq;"), -71)

    def test_too_many_come_before_what_is_no_sheet(self):
        self.assertEqual(added(";" * 2048), -71)
        self.assertEqual(added("(" * 2049), -28)


if __name__ == "__main__":
    unittest.main()
