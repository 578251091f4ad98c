import ast
import contextlib
import io
import pathlib
import unittest
from unittest import mock

import nightballoons
from nightballoons.balloon import UnknownCall, answers

ALL_CALLS = [
    0, 10, 5, 4, 3, 1, 1, 6, 12, 2, 1, 6, 2, 2, 6, 6, 3, 4, 1, 4, 3, 4, 201, 5,
    0, 6, 5, 4, 3, 1, 2, 0, 3, 4, 0, 5, 0, 0, 5, 4, 3, 1, 1, 0, 0, 1, 5, 20,
]
ALL_ANSWERS = [
    1, 0, 1, 8, 3, 1, 4, 6, 3, -6, 1, 2, 2, 1, 6, 1, 7, 1, -6, 1, -1, 2, 20, 2,
    1, 0, 1, -3, 1, -3, 1, -6, 1, -6, 1, -1, 1, -1, 1, -6,
]


class Unchanging(list):
    """A list that can be read, but not changed, not for a while either."""

    def refuse(self, *anything, **named):
        raise AssertionError("the list that was handed in is changed")

    append = extend = insert = pop = remove = clear = sort = reverse = refuse
    __setitem__ = __delitem__ = __iadd__ = __imul__ = refuse


class InterfaceTest(unittest.TestCase):
    def test_the_balloon_at_the_beginning(self):
        # Weighs 1, lifts 1 by day, has 1 of gas and no sand.
        self.assertEqual(answers([2, 0]), [3, 0, 1, 0])
        self.assertEqual(answers([1, 1, 0]), [1, 0])
        self.assertEqual(answers([1, 5, 2]), [1, 2])
        self.assertEqual(answers([1, 1, 1]), [1, -6])

    def test_leak_and_over_at_the_beginning(self):
        # 1 leaks and nothing is left.
        self.assertEqual(answers([2, 1, 0]), [3, -6, 0, 2])
        # Nothing may be over, so 2 of 5 go, then 1 leaks, and 2 lift 2 by night.
        self.assertEqual(answers([1, 5, 2, 2, 1, 1, 2, 1, 0]), [1, 2, 3, 1, 2, 1, 3, -6, 0, 2])

    def test_how_many_numbers_stand_ahead_of_each_answer(self):
        self.assertEqual(
            answers([0, 10, 5, 4, 3, 1, 1, 6, 12, 2, 1, 6, 2, 2, 6, 6, 2, 1, 13]),
            [1, 0, 1, 8, 3, 1, 4, 6, 3, -6, 1, 2, 3, -6, 0, 1],
        )

    def test_a_refusal_stands_alone(self):
        self.assertEqual(
            answers([0, 0, 5, 4, 3, 1, 1, 0, 0, 1, 1, 5, 0, 6, 5, 4, 3, 1, 2, 1, 0]),
            [1, -1, 1, -1, 1, -6, 1, 0, 1, -3],
        )

    def test_the_forms_of_all_answers(self):
        self.assertEqual(answers(ALL_CALLS), ALL_ANSWERS)

    def test_nights_has_no_other_count(self):
        # Ahead of the number of nights stands only how many numbers are answered.
        self.assertEqual(answers([0, 20, 5, 4, 100, 2, 1, 20, 40, 3])[4:], [8, 7, 0, 0, 4, 8, 8, 8, 8])
        self.assertEqual(answers([3]), [1, 0])

    def test_needs_and_most_at_the_beginning(self):
        self.assertEqual(answers([4, 0, 4, 1, 5]), [1, 0, 1, -6, 2, 0, 0])

    def test_the_numbers_of_a_call_are_not_taken_for_calls(self):
        self.assertEqual(answers([4, 3, 4, 4, 4, 5, 3, 5]), [1, -6, 1, -6, 1, -6, 1, 0, 2, 0, 0])

    def test_a_call_of_another_number(self):
        for call in (6, 4294967295):
            with self.subTest(call=call), self.assertRaises(UnknownCall):
                answers([3, call])

    def test_a_plan_is_not_taken_for_calls(self):
        self.assertEqual(
            answers([2, 7, 0, 0, 1, 2, 3, 4, 5, 2, 0, 1, 1, 0]),
            [3, -6, 0, 2, 3, 0, 1, 0, 1, 0],
        )

    def test_sixty_calls(self):
        self.assertEqual(answers([2, 0] * 60), [3, 0, 1, 0] * 60)
        self.assertEqual(answers(([2, 40] + [0] * 40) * 60), [3, -6, 0, 2] * 60)

    def test_sixty_calls_about_the_one_that_stays_up_longest(self):
        # For so many nights one measure more has to stay by day: 1 that it weighs and 10000 over count for it.
        manys = list(range(144, 201))
        calls = [0, 1, 100, 100, 10000, 1, 1, 200, 10000]
        expected = [1, 0, 1, 9999]
        for many in manys:
            calls += [4, many]
            expected += [1, 100 * (many + 1) - 10001 if many < 200 else -6]
        self.assertEqual(answers(calls + [5]), expected + [2, 19999, 199])
        nights = [199] + [0] * 99 + [1] + [100] * 99
        self.assertEqual(
            answers([0, 1, 100, 100, 10000, 1, 1, 200, 10000] + [3] * 58),
            [1, 0, 1, 9999] + ([200] + nights) * 58,
        )

    def test_sixty_calls_about_the_heaviest(self):
        # 200 measures lift 20000; one leaks every day, and every night takes 100, till it has no sand.
        self.assertEqual(
            answers([0, 10000, 100, 100, 0, 1, 1, 200, 10000] + [4, 100] * 19 + [5] * 20 + [4, 101] * 19),
            [1, 0, 1, 0] + [1, 10000] * 19 + [2, 10000, 100] * 20 + [1, -6] * 19,
        )
        self.assertEqual(
            answers([0, 10000, 100, 100, 10000, 1, 1, 200, 10000] + [3] * 29 + [4, 100] * 29),
            [1, 0, 1, 0] + ([101, 100] + [100] * 100) * 29 + [1, 0] * 29,
        )
        self.assertEqual(
            answers([0, 10000, 100, 100, 10000, 200, 1, 200, 10000] + [3, 5] * 29),
            [1, 0, 1, 0] + [1, 0, 2, 10000, 0] * 29,
        )

    def test_the_list_is_not_changed(self):
        calls = [0, 10, 5, 4, 3, 1, 1, 6, 12, 2, 2, 6, 6, 0, 0, 0, 0, 0, 0, 2, 0]
        before = list(calls)
        answers(calls)
        self.assertEqual(calls, before)
        every = list(ALL_CALLS)
        answers(every)
        self.assertEqual(every, ALL_CALLS)

    def test_the_list_is_not_changed_for_a_while_either(self):
        self.assertEqual(answers(Unchanging(ALL_CALLS)), ALL_ANSWERS)

    def test_two_lists_do_not_touch_each_other(self):
        self.assertEqual(answers([0, 10, 5, 4, 3, 1, 1, 6, 12]), [1, 0, 1, 8])
        self.assertEqual(answers([2, 0, 1, 1, 0]), [3, 0, 1, 0, 1, 0])
        self.assertEqual(answers([1, 3, 0, 2, 0]), [1, 2, 3, 0, 3, 0])
        self.assertEqual(answers([2, 0, 2, 1, 0]), [3, 0, 1, 0, 3, -6, 0, 2])

    def test_every_list_is_as_if_the_first(self):
        for _ in range(3):
            self.assertEqual(answers(ALL_CALLS), ALL_ANSWERS)
            self.assertEqual(answers([3, 4, 0, 5, 2, 0]), [1, 0, 1, 0, 2, 0, 0, 3, 0, 1, 0])

    def test_what_is_given_back_can_be_changed(self):
        answers([2, 0]).append(7)
        self.assertEqual(answers([2, 0]), [3, 0, 1, 0])

    def test_whole_numbers_in_a_list(self):
        answered = answers([0, 10, 5, 4, 3, 1, 1, 6, 12, 2, 1, 6, 2, 1, 5, 0, 0, 0, 0, 0, 0])
        self.assertIs(type(answered), list)
        self.assertEqual({type(number) for number in answered}, {int})
        self.assertEqual({type(number) for number in answers(ALL_CALLS)}, {int})

    def test_it_prints_nothing_and_reads_nothing(self):
        printed = io.StringIO()
        read = mock.Mock(side_effect=AssertionError("something is read"))
        with contextlib.redirect_stdout(printed), contextlib.redirect_stderr(printed):
            with mock.patch("builtins.open", read), mock.patch("builtins.input", read), mock.patch("sys.stdin", None):
                answers(ALL_CALLS)
        self.assertEqual(printed.getvalue(), "")

    def test_it_imports_nothing_but_its_own(self):
        files = sorted(pathlib.Path(nightballoons.__file__).parent.glob("*.py"))
        self.assertIn("balloon.py", [file.name for file in files])
        for file in files:
            for node in ast.walk(ast.parse(file.read_text())):
                self.assertNotIsInstance(node, ast.Import, file)
                if isinstance(node, ast.ImportFrom):
                    self.assertEqual(node.module.split(".")[0], "nightballoons", file)


if __name__ == "__main__":
    unittest.main()
