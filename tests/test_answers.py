"""The interface: calls in one list, answers in one list, nothing changed and nothing kept."""

import unittest

from tests.asking import BACK, EIGHT, START, TEXT, TWENTY_FOUR, add, ask, asked, unit, value
from unitsheet.amounts import answers


# All six calls, with answers of all four forms and with refusals.
SIX = (
    START + add("unit m;") + unit("2 * m") + value("3 * m", "2 * m") + TEXT
    + BACK + unit("m") + value("1", "0") + TEXT)
TOLD_OF_SIX = (
    [2, 0, 0] + [2, 0, 1] + [36, 1, 0, 8, 1] + [0] * 7 + [24] + TWENTY_FOUR + [3, 2, 3, 2]
    + [9, 3, 7] + list(b"unit m;") + [2, 0, 0] + [2, 0, -22] + [2, 0, -33] + [2, 3, 0])


class Interface(unittest.TestCase):
    def test_one_call(self):
        self.assertEqual(answers([0]), [2, 0, 0])

    def test_each_answer_has_its_count_and_its_form(self):
        calls = START + add("unit m;") + add("let x = 1 + m;") + BACK + BACK
        self.assertEqual(answers(calls), [2, 0, 0, 2, 0, 1, 2, 0, -61, 2, 0, 0, 2, 0, -2])

    def test_answers_are_a_list_of_plain_whole_numbers(self):
        told = answers(START + add("unit m;") + add("unit m;") + BACK)
        self.assertIs(type(told), list)
        self.assertEqual({type(number) for number in told}, {int})

    def test_all_six_calls_in_one_list(self):
        self.assertEqual(answers(SIX), TOLD_OF_SIX)
        self.assertIs(type(answers(SIX)), list)
        self.assertEqual({type(number) for number in answers(SIX)}, {int})

    def test_all_six_calls_leave_the_list_as_it_was(self):
        calls = list(SIX)
        answers(calls)
        self.assertEqual(calls, SIX)

    def test_all_six_calls_when_asked_twice(self):
        calls = list(SIX)
        first = answers(calls)
        self.assertEqual(answers(calls), first)
        first.clear()
        self.assertEqual(answers(calls), TOLD_OF_SIX)

    def test_what_is_handed_in_is_never_changed(self):
        class Watched(list):
            def changed(self, *given):
                raise AssertionError("the list is changed")

            append = extend = insert = pop = remove = clear = sort = reverse = changed
            __setitem__ = __delitem__ = __iadd__ = __imul__ = changed

        self.assertEqual(answers(Watched(SIX)), TOLD_OF_SIX)

    def test_a_hundred_calls_of_all_sorts(self):
        six = [add("unit m;"), unit("m"), value("m", "2 * m"), TEXT, BACK, unit("m"), value("m", "1")]
        comes = [1, 0, 8, 1] + EIGHT[1:] + [24] + TWENTY_FOUR
        told = [[0, 1], comes, [2, 1, 2], [3, 7] + list(b"unit m;"), [0, 0], [0, -22], [0, -22]]
        self.assertEqual(asked(*(six * 14 + [TEXT])), told * 14 + [[3, 0]])

    def test_a_row_may_have_the_numbers_of_calls(self):
        told = asked(add([0, 1, 2, 3, 4, 5]), unit([3, 1, 3]), value([4, 0], [5]), value([], []), unit([]), TEXT)
        self.assertEqual(told, [[0, -71]] * 5 + [[3, 0]])

    def test_long_rows_one_behind_another(self):
        long = "1" * 9000
        told = asked(unit(long), value("!" * 9000, long), value("1", long), value("1" * 8193, "1"), TEXT)
        self.assertEqual(told, [[0, -28]] * 4 + [[3, 0]])

    def test_nothing_of_a_formula_is_kept(self):
        answers(START + add("unit m; let x = 3 * m;") + value("x", "m") + unit("x"))
        self.assertEqual(asked(value("x", "m"), unit("m"), TEXT), [[0, -22], [0, -22], [3, 0]])

    def test_a_hundred_calls(self):
        calls = [add("unit m;"), BACK] * 49 + [BACK]
        self.assertEqual(ask(*calls), [1, 0] * 49 + [-2])

    def test_a_hundred_calls_that_all_stay(self):
        calls = [add("let n%d = %d;" % (k, k)) for k in range(64)] + [BACK] * 35
        sizes = [0]
        for k in range(64):
            sizes.append(sizes[-1] + len("let n%d = %d;" % (k, k)))
        self.assertEqual(ask(*calls), list(range(1, 65)) + sizes[63:28:-1])

    def test_the_list_is_as_it_was(self):
        calls = START + add("unit m; let a = 0 * m;") + add("let b = a + 1;") + add("!") + BACK
        before = list(calls)
        answers(calls)
        self.assertEqual(calls, before)

    def test_the_same_when_asked_twice(self):
        calls = START + add("unit m;") + add("fn f(x) = x + m;") + add("let y = f(1);") + BACK
        first = answers(calls)
        self.assertEqual(answers(calls), first)
        self.assertEqual(first, [2, 0, 0, 2, 0, 1, 2, 0, 2, 2, 0, -61, 2, 0, 7])

    def test_nothing_is_kept_from_one_time_to_the_next(self):
        answers(START + add("unit m;"))
        self.assertEqual(ask(BACK), [-2])
        self.assertEqual(ask(add("let x = m;")), [-22])
        self.assertEqual(ask(add("unit m;")), [1])

    def test_what_was_answered_may_be_changed(self):
        told = answers(START + add("unit m;"))
        told.append(7)
        self.assertEqual(answers(START + add("unit m;")), [2, 0, 0, 2, 0, 1])

    def test_a_long_list(self):
        row = "let x = " + "1*" * 1019 + "1;"
        calls = [add(row + " " * (8192 - len(row))), BACK] * 3 + [add("!" * 9000)] * 3
        self.assertEqual(ask(*calls), [1, 0] * 3 + [-28] * 3)


if __name__ == "__main__":
    unittest.main()
