import unittest

from asking import ask, begins, check, load

BIGGEST = 4294967295


class LoadTest(unittest.TestCase):
    def test_answers_how_much_more_it_lifts(self):
        self.assertEqual(ask(begins(20, 5, 4, 100, 2), load(20, 40)), [[0], [40]])

    def test_so_much_it_has_at_the_start(self):
        self.assertEqual(
            ask(begins(20, 5, 4, 100, 2), load(20, 40), check(), load(7, 3), check()),
            [[0], [40], [0, 20, 40], [12], [0, 7, 3]],
        )

    def test_what_may_be_over_does_not_count(self):
        self.assertEqual(ask(begins(20, 5, 4, 0, 2), load(200, 0)), [[0], [980]])

    def test_at_the_bounds(self):
        self.assertEqual(ask(load(1, 0), load(200, 0)), [[0], [199]])
        self.assertEqual(ask(begins(1, 100, 1, 0, 1), load(200, 10000)), [[0], [9999]])

    def test_not_as_told(self):
        for gas, sand in [(0, 0), (201, 0), (200, 10001), (BIGGEST, 0), (200, BIGGEST)]:
            with self.subTest(gas=gas, sand=sand):
                self.assertEqual(ask(begins(1, 100, 1, 0, 1), load(gas, sand)), [[0], [-1]])

    def test_just_lifted_and_just_not(self):
        self.assertEqual(
            ask(begins(20, 5, 1, 0, 1), load(4, 0), load(8, 20), load(3, 0), load(8, 21)),
            [[0], [0], [0], [-6], [-6]],
        )

    def test_lifted_by_day_is_asked_not_by_night(self):
        self.assertEqual(ask(begins(100, 100, 1, 0, 1), load(1, 0)), [[0], [0]])

    def test_of_several_refusals_the_one_told_first(self):
        # None of these would be lifted, were it let go so.
        for gas, sand in [(0, 0), (201, 10001), (1, 10001), (0, 10000), (201, 10000)]:
            with self.subTest(gas=gas, sand=sand):
                self.assertEqual(ask(begins(10000, 1, 1, 0, 1), load(gas, sand)), [[0], [-1]])

    def test_a_refusal_leaves_all_as_it_was(self):
        for gas, sand, refusal in [(0, 5, -1), (201, 5, -1), (7, 10001, -1), (3, 6, -6), (12, 51, -6)]:
            with self.subTest(gas=gas, sand=sand):
                self.assertEqual(
                    ask(begins(10, 5, 4, 3, 1), load(6, 12), load(gas, sand), check(), check(6)),
                    [[0], [8], [refusal], [0, 6, 12], [1, 4, 6]],
                )

    def test_a_refusal_leaves_one_that_is_not_lifted(self):
        self.assertEqual(
            ask(begins(20, 5, 4, 0, 1), load(3, 0), check(), load(4, 0), check()),
            [[0], [-6], [-3], [0], [0, 4, 0]],
        )


if __name__ == "__main__":
    unittest.main()
