import unittest

from asking import ask, begins, check, load, nights
from slowly import all_with_which_it_is_lifted, least_plan, longest_of_all_plans, small_balloons


class NightsTest(unittest.TestCase):
    def asked(self, made, loaded):
        return ask(begins(*made), load(*loaded), nights())[2]

    def test_not_lifted(self):
        self.assertEqual(ask(begins(6, 5, 4, 10, 1), nights()), [[0], [-3]])

    def test_just_lifted(self):
        self.assertEqual(ask(begins(5, 5, 5, 0, 1), nights()), [[0], [0]])

    def test_not_lifted_then_loaded(self):
        self.assertEqual(
            ask(begins(10, 5, 4, 3, 1), nights(), load(6, 12), nights(), load(6, 21), nights()),
            [[0], [-3], [8], [1, 6], [-6], [1, 6]],
        )

    def test_no_nights_stand_alone(self):
        # All that's left of the gas leaks away on the first day.
        self.assertEqual(self.asked((1, 5, 5, 100, 3), (3, 0)), [0])
        # 2 measures lift 8 by night, and it weighs 10 without any sand.
        self.assertEqual(self.asked((10, 5, 4, 3, 1), (6, 6)), [0])
        # A new balloon has 1 of gas, which leaks away.
        self.assertEqual(ask(nights()), [[0]])

    def test_nothing_thrown_and_then_something(self):
        self.assertEqual(self.asked((20, 5, 4, 100, 2), (20, 40)), [7, 0, 0, 4, 8, 8, 8, 8])

    def test_nothing_thrown_in_any_night(self):
        # It weighs 1, so that the last measure is still enough for a night.
        self.assertEqual(self.asked((1, 5, 5, 100, 1), (4, 0)), [3, 0, 0, 0])

    def test_something_thrown_in_every_night(self):
        # 7 measures lift 14 by night, 5 lift 10, 3 lift 6; then 1 lifts 2, and it weighs 6 without any sand.
        self.assertEqual(self.asked((6, 3, 2, 10, 2), (9, 14)), [3, 6, 4, 4])

    def test_it_stays_up_where_it_weighs_just_what_is_lifted(self):
        # 3 measures lift 12 by night.
        self.assertEqual(self.asked((12, 5, 4, 100, 1), (4, 0)), [1, 0])
        self.assertEqual(self.asked((11, 5, 4, 100, 1), (4, 1)), [1, 0])
        self.assertEqual(self.asked((11, 5, 4, 100, 1), (4, 2)), [1, 1])
        self.assertEqual(self.asked((13, 5, 4, 100, 1), (4, 0)), [0])

    def test_all_the_sand_is_just_enough_for_the_last_night(self):
        # 6 measures lift 12, 5 lift 10, and so on: the fifth night takes the last 2, the sixth would take 2 more.
        self.assertEqual(self.asked((4, 2, 2, 100, 1), (7, 10)), [5, 2, 2, 2, 2, 2])
        self.assertEqual(
            ask(begins(4, 2, 2, 100, 1), load(7, 10), check(2, 2, 2, 2, 2), check(2, 2, 2, 2, 2, 0))[2:],
            [[5, 2, 0], [-6, 5, 2]],
        )

    def test_what_may_be_over(self):
        # 9 of sand: 13 and what may be over is lifted by 6 measures, or by all 7 if 1 may be over.
        self.assertEqual(self.asked((4, 2, 2, 0, 1), (7, 9)), [4, 3, 2, 2, 2])
        self.assertEqual(self.asked((4, 2, 2, 1, 1), (7, 9)), [5, 1, 2, 2, 2, 2])

    def test_what_leaks(self):
        self.assertEqual(self.asked((4, 2, 2, 100, 2), (7, 10)), [2, 4, 4])
        self.assertEqual(self.asked((4, 2, 2, 100, 3), (7, 10)), [1, 6])
        self.assertEqual(self.asked((4, 2, 2, 100, 6), (7, 10)), [0])

    def test_199_nights(self):
        # By the hundredth night 100 measures are left, and it weighs 10001.
        self.assertEqual(
            self.asked((1, 100, 100, 10000, 1), (200, 10000)),
            [199] + [0] * 99 + [1] + [100] * 99,
        )
        self.assertEqual(self.asked((1, 1, 1, 10000, 1), (200, 0)), [199] + [0] * 199)

    def test_it_leaves_all_as_it_was(self):
        self.assertEqual(
            ask(begins(10, 5, 4, 3, 1), load(6, 12), nights(), check(), check(6), nights(), load(6, 12))[2:],
            [[1, 6], [0, 6, 12], [1, 4, 6], [1, 6], [8]],
        )

    def test_begins_puts_it_back(self):
        self.assertEqual(
            ask(begins(4, 2, 2, 100, 1), load(7, 10), begins(1, 2, 2, 100, 1), nights())[3],
            [0],
        )

    def test_small_balloons_the_slow_way(self):
        for made in small_balloons():
            for gas in (1, 2, 3, 5, 8):
                for sand in all_with_which_it_is_lifted(made, gas)[:7]:
                    plan = least_plan(made, gas, sand)
                    self.assertEqual(self.asked(made, (gas, sand)), [len(plan)] + plan, (made, gas, sand))

    def test_its_plan_keeps_it_up_and_none_keeps_it_up_longer(self):
        for made in small_balloons():
            for gas in (1, 3, 7):
                for sand in all_with_which_it_is_lifted(made, gas)[:7]:
                    with self.subTest(made=made, gas=gas, sand=sand):
                        many, *plan = self.asked(made, (gas, sand))
                        kept = ask(begins(*made), load(gas, sand), check(*plan))[2]
                        self.assertEqual((kept[0], kept[2]), (many, sand - sum(plan)))
                        self.assertEqual(longest_of_all_plans(made, gas, sand), many)


if __name__ == "__main__":
    unittest.main()
