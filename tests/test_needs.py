import unittest

from asking import ask, begins, check, load, most, needs, nights
from slowly import all_with_which_it_is_lifted, longest_of_all_plans, small_balloons

BIGGEST = 4294967295
LONGEST_UP = (1, 100, 100, 0, 1)


class NeedsTest(unittest.TestCase):
    def asked(self, made, loaded, *manys):
        answered = ask(begins(*made), load(*loaded), *[needs(many) for many in manys])[2:]
        return [answer[0] if len(answer) == 1 else answer for answer in answered]

    def test_more_than_200_nights(self):
        self.assertEqual(ask(needs(201), needs(202), needs(BIGGEST)), [[-1], [-1], [-1]])
        self.assertEqual(self.asked(LONGEST_UP, (200, 0), 201, BIGGEST), [-1, -1])

    def test_200_nights_are_no_more_than_200(self):
        self.assertEqual(ask(needs(200)), [[-6]])
        self.assertEqual(self.asked(LONGEST_UP, (200, 0), 199, 200), [19999, -6])

    def test_not_lifted_without_any(self):
        self.assertEqual(
            ask(begins(6, 5, 4, 10, 1), needs(0), needs(1), needs(200)),
            [[0], [-6], [-6], [-6]],
        )

    def test_of_several_refusals_the_one_told_first(self):
        self.assertEqual(ask(begins(6, 5, 4, 10, 1), needs(201), needs(BIGGEST)), [[0], [-1], [-1]])

    def test_just_lifted_without_any(self):
        self.assertEqual(ask(begins(5, 5, 5, 0, 1), needs(0), needs(1)), [[0], [0], [-6]])

    def test_no_sand_is_enough(self):
        # It's lifted with 20 of sand at the most, and stays up for 2 nights with so much.
        self.assertEqual(self.asked((10, 5, 4, 3, 1), (6, 0), 2, 3, 199), [17, -6, -6])
        # What's left of the gas leaks away.
        self.assertEqual(self.asked((1, 5, 5, 100, 3), (3, 0), 1), [-6])

    def test_0_nights_need_no_sand(self):
        self.assertEqual(self.asked((20, 5, 4, 100, 2), (20, 40), 0), [0])

    def test_nights_that_need_no_sand(self):
        # 18, 16 .. 6 measures are left by night, and 20 are lifted by 5 of them.
        self.assertEqual(self.asked((20, 5, 4, 100, 2), (20, 40), 1, 6, 7, 8), [0, 0, 0, -6])

    def test_one_less_is_not_enough(self):
        # A weight of 17 and 3 over keep 4 measures by day, and 3 lift 12; 16 and 3 keep 3, and 2 lift 8.
        # For a second night it has to weigh 17 behind the first: 5 measures by night, 6 by day, 27 and 3.
        self.assertEqual(self.asked((10, 5, 4, 3, 1), (6, 0), 1, 2), [7, 17])
        self.assertEqual(
            ask(begins(10, 5, 4, 3, 1), load(6, 7), nights(), load(6, 6), nights())[1:],
            [[13], [1, 5], [14], [0]],
        )
        self.assertEqual(
            ask(begins(10, 5, 4, 3, 1), load(6, 17), nights(), load(6, 16), nights())[1:],
            [[3], [2, 7, 8], [4], [1, 10]],
        )

    def test_what_it_needs_is_enough_and_one_less_is_not(self):
        for made, gas in [((37, 9, 7, 5, 1), 40), ((500, 60, 45, 30, 3), 90), ((10000, 100, 99, 0, 5), 200)]:
            longest = ask(begins(*made), load(gas, 0), most())[2][1]
            self.assertEqual(self.asked(made, (gas, 0), longest + 1), [-6])
            for many in range(1, longest + 1):
                with self.subTest(made=made, gas=gas, many=many):
                    needed = self.asked(made, (gas, 0), many)[0]
                    plan = ask(begins(*made), load(gas, needed), nights())[2][1:many + 1]
                    self.assertEqual(ask(begins(*made), load(gas, needed), check(*plan))[2][0], many)
                    self.assertLess(ask(begins(*made), load(gas, needed - 1), nights())[2][0], many)

    def test_more_than_10000(self):
        # 151 measures by day are kept where 15100 are lifted; one leaks away for each of 150 nights.
        self.assertEqual(self.asked(LONGEST_UP, (200, 0), 98, 99, 100, 150), [9899, 9999, 10099, 15099])

    def test_all_the_sand_with_which_it_is_lifted(self):
        self.assertEqual(ask(begins(*LONGEST_UP), load(200, 0), most(), needs(199))[2:], [[19999, 199], [19999]])

    def test_instead_of_what_is_told(self):
        for sand in (0, 1, 6, 7, 8, 12, 20):
            with self.subTest(sand=sand):
                self.assertEqual(self.asked((10, 5, 4, 3, 1), (6, sand), 0, 1, 2, 3), [0, 7, 17, -6])

    def test_the_gas_is_what_is_told(self):
        # With 3 measures it's lifted with 5 of sand at the most.
        self.assertEqual(self.asked((10, 5, 4, 3, 1), (3, 0), 0, 1), [0, -6])
        self.assertEqual(self.asked((10, 5, 4, 3, 1), (4, 0), 1, 2), [7, -6])

    def test_what_is_told_stays(self):
        self.assertEqual(
            ask(
                begins(10, 5, 4, 3, 1), load(6, 12),
                needs(2), check(), needs(0), check(6), needs(3), nights(), needs(201), check(), load(6, 12),
            )[2:],
            [[17], [0, 6, 12], [0], [1, 4, 6], [-6], [1, 6], [-1], [0, 6, 12], [8]],
        )

    def test_small_balloons_the_slow_way(self):
        for made in small_balloons():
            for gas in (1, 2, 3, 5):
                longest = [longest_of_all_plans(made, gas, sand) for sand in all_with_which_it_is_lifted(made, gas)]
                if not longest:
                    continue
                for many in range(6):
                    enough = [sand for sand, nights_up in enumerate(longest) if nights_up >= many]
                    expected = enough[0] if enough else -6
                    self.assertEqual(self.asked(made, (gas, 0), many), [expected], (made, gas, many))


if __name__ == "__main__":
    unittest.main()
