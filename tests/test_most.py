import unittest

from asking import ask, begins, check, load, most, nights
from slowly import all_with_which_it_is_lifted, longest_of_all_plans, small_balloons


class MostTest(unittest.TestCase):
    def asked(self, made, loaded):
        return ask(begins(*made), load(*loaded), most())[2]

    def test_not_lifted_without_any(self):
        self.assertEqual(ask(begins(6, 5, 4, 10, 1), most()), [[0], [-6]])

    def test_just_lifted_without_any(self):
        self.assertEqual(ask(begins(5, 5, 5, 0, 1), most()), [[0], [0, 0]])
        self.assertEqual(self.asked((20, 5, 5, 100, 1), (4, 0)), [0, 0])

    def test_just_lifted_with_1(self):
        self.assertEqual(self.asked((19, 5, 5, 100, 1), (4, 0)), [1, 0])

    def test_a_new_balloon(self):
        self.assertEqual(ask(most(), load(5, 2), most()), [[0, 0], [2], [4, 4]])

    def test_the_nights_with_so_much(self):
        # It weighs 30: 5 measures lift 20, 3 lift 12, and then 2 lift 8.
        self.assertEqual(self.asked((10, 5, 4, 3, 1), (6, 0)), [20, 2])
        # It weighs 100; 18, 16 .. 6 measures are left by night, and 20 are lifted by 5 of them.
        self.assertEqual(self.asked((20, 5, 4, 100, 2), (20, 0)), [80, 7])

    def test_the_nights_are_not_those_with_what_is_loaded(self):
        self.assertEqual(
            ask(begins(10, 5, 4, 3, 1), load(6, 6), nights(), most(), load(6, 20), nights(), most())[2:],
            [[0], [20, 2], [0], [2, 10, 8], [20, 2]],
        )

    def test_the_gas_is_what_is_loaded(self):
        self.assertEqual(ask(begins(4, 2, 2, 0, 1), load(7, 3), most(), load(2, 0), most())[2::2], [[10, 5], [0, 0]])

    def test_it_is_by_day_that_it_is_lifted(self):
        self.assertEqual(self.asked((10, 100, 1, 0, 1), (15, 0)), [1490, 1])

    def test_more_than_10000(self):
        self.assertEqual(self.asked((1, 100, 100, 0, 1), (200, 0)), [19999, 199])
        self.assertEqual(self.asked((10000, 100, 100, 0, 1), (200, 10000)), [10000, 100])
        self.assertEqual(self.asked((9999, 100, 100, 0, 1), (200, 10000)), [10001, 100])

    def test_what_is_told_stays(self):
        self.assertEqual(
            ask(begins(10, 5, 4, 3, 1), load(6, 12), most(), check(), check(6), most(), nights(), load(6, 12))[2:],
            [[20, 2], [0, 6, 12], [1, 4, 6], [20, 2], [1, 6], [8]],
        )

    def test_one_that_is_not_lifted_stays_so(self):
        self.assertEqual(ask(begins(6, 5, 4, 10, 1), most(), check(), nights()), [[0], [-6], [-3], [-3]])

    def test_small_balloons_the_slow_way(self):
        for made in small_balloons():
            for gas in (1, 2, 3, 5):
                lifted = all_with_which_it_is_lifted(made, gas)
                if lifted:
                    expected = [lifted[-1], longest_of_all_plans(made, gas, lifted[-1])]
                    self.assertEqual(self.asked(made, (gas, 0)), expected, (made, gas))


if __name__ == "__main__":
    unittest.main()
