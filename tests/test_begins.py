import unittest

from asking import ask, begins, check, load

AT_THE_LEAST = (1, 1, 1, 0, 1)
AT_THE_MOST = (10000, 100, 100, 10000, 200)
BIGGEST = 4294967295


def with_one(numbers, place, number):
    changed = list(numbers)
    changed[place] = number
    return begins(*changed)


class BeginsTest(unittest.TestCase):
    def test_answers_0(self):
        self.assertEqual(ask(begins(20, 5, 4, 100, 2)), [[0]])

    def test_all_at_their_bounds(self):
        self.assertEqual(ask(begins(*AT_THE_LEAST), begins(*AT_THE_MOST)), [[0], [0]])

    def test_each_at_its_bounds_alone(self):
        ordinary = (20, 50, 40, 100, 2)
        for place, bounds in enumerate([(1, 10000), (40, 100), (1, 50), (0, 10000), (1, 200)]):
            for number in bounds:
                with self.subTest(place=place, number=number):
                    self.assertEqual(ask(with_one(ordinary, place, number)), [[0]])

    def test_each_just_below(self):
        for place in (0, 1, 2, 4):
            with self.subTest(place=place):
                self.assertEqual(ask(with_one(AT_THE_LEAST, place, 0)), [[-1]])

    def test_day_0_with_night_0(self):
        self.assertEqual(ask(begins(1, 0, 0, 0, 1)), [[-1]])

    def test_each_just_above(self):
        above = (10001, 101, 101, 10001, 201)
        for place, number in enumerate(above):
            with self.subTest(place=place):
                self.assertEqual(ask(with_one(AT_THE_MOST, place, number)), [[-1]])
                self.assertEqual(ask(with_one(AT_THE_MOST, place, BIGGEST)), [[-1]])

    def test_day_and_night_above_together(self):
        self.assertEqual(ask(begins(1, 101, 101, 0, 1)), [[-1]])

    def test_night_above_day(self):
        self.assertEqual(ask(begins(20, 5, 6, 0, 1), begins(20, 5, 5, 0, 1)), [[-1], [0]])

    def test_1_of_gas_and_no_sand(self):
        self.assertEqual(ask(begins(3, 5, 4, 0, 1), check()), [[0], [0, 1, 0]])

    def test_puts_back_gas_and_sand(self):
        self.assertEqual(
            ask(begins(3, 5, 4, 0, 1), load(9, 7), check(), begins(3, 5, 4, 0, 1), check()),
            [[0], [35], [0, 9, 7], [0], [0, 1, 0]],
        )

    def test_may_make_one_that_is_not_lifted(self):
        self.assertEqual(ask(begins(6, 5, 4, 0, 1), check()), [[0], [-3]])

    def test_each_number_is_used(self):
        plan = check(6)
        asked = [
            (begins(10, 5, 4, 3, 1), [1, 4, 6]),
            (begins(11, 5, 4, 3, 1), [-6, 0, 2]),
            (begins(10, 6, 4, 3, 1), [-6, 0, 2]),
            (begins(10, 5, 3, 3, 1), [-6, 0, 2]),
            (begins(10, 5, 4, 8, 1), [1, 5, 6]),
            (begins(10, 5, 4, 3, 2), [-6, 0, 2]),
        ]
        for made, answer in asked:
            with self.subTest(made=made):
                self.assertEqual(ask(made, load(6, 12), plan)[2], answer)

    def test_a_refusal_leaves_all_as_it_was(self):
        refused = [
            begins(0, 7, 6, 5, 3),
            begins(10001, 7, 6, 5, 3),
            begins(17, 0, 6, 5, 3),
            begins(17, 101, 6, 5, 3),
            begins(17, 7, 0, 5, 3),
            begins(17, 7, 8, 5, 3),
            begins(17, 7, 6, 10001, 3),
            begins(17, 7, 6, 5, 0),
            begins(17, 7, 6, 5, 201),
        ]
        for again in refused:
            with self.subTest(again=again):
                self.assertEqual(
                    ask(begins(10, 5, 4, 3, 1), load(6, 12), again, check(), check(6), check(6, 6), load(6, 12)),
                    [[0], [8], [-1], [0, 6, 12], [1, 4, 6], [-6, 1, 2], [8]],
                )


if __name__ == "__main__":
    unittest.main()
