"""The interface: calls in one list, answers in one list, nothing changed and nothing kept."""

import unittest

from tests.asking import BACK, START, add, ask
from unitsheet.amounts import answers


class Interface(unittest.TestCase):
    def test_one_call(self):
        self.assertEqual(answers([0]), [2, 0, 0])

    def test_each_answer_has_its_count_and_its_form(self):
        calls = START + add("unit m;") + add("let x = 1 + m;") + BACK + BACK
        self.assertEqual(answers(calls), [2, 0, 0, 2, 0, 1, 2, 0, -61, 2, 0, 0, 2, 0, -2])

    def test_answers_are_a_list_of_plain_whole_numbers(self):
        told = answers(START + add("unit m;") + add("unit m;") + BACK)
        self.assertIs(type(told), list)
        self.assertEqual({type(number) for number in told}, {int})

    def test_a_hundred_calls(self):
        calls = [add("unit m;"), BACK] * 49 + [BACK]
        self.assertEqual(ask(*calls), [1, 0] * 49 + [-2])

    def test_a_hundred_calls_that_all_stay(self):
        calls = [add("let n%d = %d;" % (k, k)) for k in range(64)] + [BACK] * 35
        sizes = [0]
        for k in range(64):
            sizes.append(sizes[-1] + len("let n%d = %d;" % (k, k)))
        self.assertEqual(ask(*calls), list(range(1, 65)) + sizes[63:28:-1])

    def test_the_list_is_as_it_was(self):
        calls = START + add("unit m; let a = 0 * m;") + add("let b = a + 1;") + add("!") + BACK
        before = list(calls)
        answers(calls)
        self.assertEqual(calls, before)

    def test_the_same_when_asked_twice(self):
        calls = START + add("unit m;") + add("fn f(x) = x + m;") + add("let y = f(1);") + BACK
        first = answers(calls)
        self.assertEqual(answers(calls), first)
        self.assertEqual(first, [2, 0, 0, 2, 0, 1, 2, 0, 2, 2, 0, -61, 2, 0, 7])

    def test_nothing_is_kept_from_one_time_to_the_next(self):
        answers(START + add("unit m;"))
        self.assertEqual(ask(BACK), [-2])
        self.assertEqual(ask(add("let x = m;")), [-22])
        self.assertEqual(ask(add("unit m;")), [1])

    def test_what_was_answered_may_be_changed(self):
        told = answers(START + add("unit m;"))
        told.append(7)
        self.assertEqual(answers(START + add("unit m;")), [2, 0, 0, 2, 0, 1])

    def test_a_long_list(self):
        row = "let x = " + "1*" * 1019 + "1;"
        calls = [add(row + " " * (8192 - len(row))), BACK] * 3 + [add("!" * 9000)] * 3
        self.assertEqual(ask(*calls), [1, 0] * 3 + [-28] * 3)


if __name__ == "__main__":
    unittest.main()
