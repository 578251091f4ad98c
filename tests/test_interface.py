import unittest

from nightballoons.balloon import answers


class InterfaceTest(unittest.TestCase):
    def test_the_balloon_at_the_beginning(self):
        # Weighs 1, lifts 1 by day, has 1 of gas and no sand.
        self.assertEqual(answers([2, 0]), [3, 0, 1, 0])
        self.assertEqual(answers([1, 1, 0]), [1, 0])
        self.assertEqual(answers([1, 5, 2]), [1, 2])
        self.assertEqual(answers([1, 1, 1]), [1, -6])

    def test_leak_and_over_at_the_beginning(self):
        # 1 leaks and nothing is left.
        self.assertEqual(answers([2, 1, 0]), [3, -6, 0, 2])
        # Nothing may be over, so 2 of 5 go, then 1 leaks, and 2 lift 2 by night.
        self.assertEqual(answers([1, 5, 2, 2, 1, 1, 2, 1, 0]), [1, 2, 3, 1, 2, 1, 3, -6, 0, 2])

    def test_how_many_numbers_stand_ahead_of_each_answer(self):
        self.assertEqual(
            answers([0, 10, 5, 4, 3, 1, 1, 6, 12, 2, 1, 6, 2, 2, 6, 6, 2, 1, 13]),
            [1, 0, 1, 8, 3, 1, 4, 6, 3, -6, 1, 2, 3, -6, 0, 1],
        )

    def test_a_refusal_stands_alone(self):
        self.assertEqual(
            answers([0, 0, 5, 4, 3, 1, 1, 0, 0, 1, 1, 5, 0, 6, 5, 4, 3, 1, 2, 1, 0]),
            [1, -1, 1, -1, 1, -6, 1, 0, 1, -3],
        )

    def test_a_plan_is_not_taken_for_calls(self):
        self.assertEqual(
            answers([2, 7, 0, 0, 1, 2, 3, 4, 5, 2, 0, 1, 1, 0]),
            [3, -6, 0, 2, 3, 0, 1, 0, 1, 0],
        )

    def test_sixty_calls(self):
        self.assertEqual(answers([2, 0] * 60), [3, 0, 1, 0] * 60)
        self.assertEqual(answers(([2, 40] + [0] * 40) * 60), [3, -6, 0, 2] * 60)

    def test_the_list_is_not_changed(self):
        calls = [0, 10, 5, 4, 3, 1, 1, 6, 12, 2, 2, 6, 6, 0, 0, 0, 0, 0, 0, 2, 0]
        before = list(calls)
        answers(calls)
        self.assertEqual(calls, before)

    def test_two_lists_do_not_touch_each_other(self):
        self.assertEqual(answers([0, 10, 5, 4, 3, 1, 1, 6, 12]), [1, 0, 1, 8])
        self.assertEqual(answers([2, 0, 1, 1, 0]), [3, 0, 1, 0, 1, 0])
        self.assertEqual(answers([1, 3, 0, 2, 0]), [1, 2, 3, 0, 3, 0])
        self.assertEqual(answers([2, 0, 2, 1, 0]), [3, 0, 1, 0, 3, -6, 0, 2])

    def test_what_is_given_back_can_be_changed(self):
        answers([2, 0]).append(7)
        self.assertEqual(answers([2, 0]), [3, 0, 1, 0])

    def test_whole_numbers_in_a_list(self):
        answered = answers([0, 10, 5, 4, 3, 1, 1, 6, 12, 2, 1, 6, 2, 1, 5, 0, 0, 0, 0, 0, 0])
        self.assertIs(type(answered), list)
        self.assertEqual({type(number) for number in answered}, {int})


if __name__ == "__main__":
    unittest.main()
