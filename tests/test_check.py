import unittest
from itertools import product

from asking import ask, begins, check, load
from slowly import flown

BIGGEST = 4294967295


class CheckTest(unittest.TestCase):
    def asked(self, made, loaded, *plans):
        return ask(begins(*made), load(*loaded), *[check(*plan) for plan in plans])[2:]

    def test_not_lifted(self):
        self.assertEqual(
            ask(begins(6, 5, 4, 10, 1), check(), check(0), check(1, 2)),
            [[0], [-3], [-3], [-3]],
        )

    def test_just_lifted(self):
        self.assertEqual(ask(begins(5, 5, 5, 0, 1), check()), [[0], [0, 1, 0]])

    def test_an_empty_plan(self):
        self.assertEqual(self.asked((10, 5, 4, 3, 1), (6, 12), ()), [[0, 6, 12]])

    def test_one_night(self):
        # 6 measures lift 30, 22 + 3 are allowed: 1 is let off, 1 leaks, 4 lift 16 by night.
        self.assertEqual(
            self.asked((10, 5, 4, 3, 1), (6, 12), (6,), (7,), (12,)),
            [[1, 4, 6], [1, 4, 5], [1, 4, 0]],
        )

    def test_seven_nights_with_nothing_let_off(self):
        self.assertEqual(
            self.asked((20, 5, 4, 100, 2), (20, 40), (0, 0, 4, 8, 8, 8, 8), (0, 0, 4, 8, 8, 8, 8, 4)),
            [[7, 6, 4], [-6, 7, 2]],
        )

    def test_no_more_is_let_off_than_has_to_be(self):
        # 4 measures lift 20: with 20 allowed all are kept, with 19 one goes, with 14 two.
        for over, left in [(10, 3), (9, 2), (5, 2), (4, 1)]:
            with self.subTest(over=over):
                self.assertEqual(self.asked((4, 5, 5, over, 1), (4, 6), (6,)), [[1, left, 0]])

    def test_sand_thrown_by_night_lets_gas_off_the_next_day(self):
        # After the first night it weighs 5, so that only 2 of 6 measures may stay by day.
        self.assertEqual(self.asked((4, 2, 2, 0, 1), (7, 10), (9, 0)), [[-6, 1, 2]])
        self.assertEqual(self.asked((4, 2, 2, 0, 1), (7, 10), (2, 2, 2)), [[3, 4, 4]])

    def test_the_first_day_lets_off_too(self):
        self.assertEqual(self.asked((10, 10, 10, 0, 1), (200, 100), (10,)), [[1, 10, 90]])

    def test_just_up_and_just_down(self):
        self.assertEqual(
            self.asked((10, 5, 4, 3, 1), (6, 12), (6,), (5,)),
            [[1, 4, 6], [-6, 0, 2]],
        )

    def test_leaks_as_much_as_there_is_and_more(self):
        for leak in (3, 4, 200):
            with self.subTest(leak=leak):
                self.assertEqual(self.asked((1, 5, 5, 100, leak), (3, 0), (), (0,)), [[0, 3, 0], [-6, 0, 2]])
        self.assertEqual(self.asked((1, 5, 5, 100, 2), (3, 0), (0,), (0, 0)), [[1, 1, 0], [-6, 1, 2]])

    def test_not_so_much_sand(self):
        self.assertEqual(
            self.asked((20, 5, 4, 100, 2), (20, 40), (40,), (41,), (BIGGEST,), (30, 10), (30, 11), (0, 0, 41, 99)),
            [[1, 18, 0], [-6, 0, 1], [-6, 0, 1], [2, 16, 0], [-6, 1, 1], [-6, 2, 1]],
        )

    def test_of_both_in_one_night_not_so_much_sand(self):
        # In the second night it comes down whatever is thrown.
        self.assertEqual(
            self.asked((10, 5, 4, 3, 1), (6, 12), (6, 6), (6, 7), (6, BIGGEST)),
            [[-6, 1, 2], [-6, 1, 1], [-6, 1, 1]],
        )

    def test_the_first_wrong_night_counts(self):
        self.assertEqual(
            self.asked((10, 5, 4, 3, 1), (6, 12), (5, 100), (13, 0), (6, 0, 100)),
            [[-6, 0, 2], [-6, 0, 1], [-6, 1, 2]],
        )

    def test_a_plan_of_40_nights(self):
        self.assertEqual(
            self.asked((1, 1, 1, 10000, 1), (200, 40), (1,) * 40, (2,) + (1,) * 39),
            [[40, 160, 0], [-6, 39, 1]],
        )

    def test_it_leaves_all_as_it_was(self):
        self.assertEqual(
            self.asked((10, 5, 4, 3, 1), (6, 12), (12,), (), (6, 6), (), (6,)),
            [[1, 4, 0], [0, 6, 12], [-6, 1, 2], [0, 6, 12], [1, 4, 6]],
        )

    def test_small_balloons_the_slow_way(self):
        plans = [plan for many in range(4) for plan in product(range(4), repeat=many)]
        asked = [check(*plan) for plan in plans]
        made = product((1, 3), (1, 2, 3), (1, 2, 3), (0, 1, 4), (1, 2))
        for one in made:
            if one[2] > one[1]:
                continue
            for gas, sand in product((2, 5, 9), (0, 2, 5)):
                if one[0] + sand > gas * one[1]:
                    continue
                expected = [flown(one, gas, sand, plan) for plan in plans]
                answered = []
                for first in range(0, len(asked), 50):
                    answered += ask(begins(*one), load(gas, sand), *asked[first:first + 50])[2:]
                self.assertEqual(answered, expected, (one, gas, sand))


if __name__ == "__main__":
    unittest.main()
