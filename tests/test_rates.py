"""The call rates: promise 3."""

import unittest

from building import ask, done, file, memory, rates
from wordcounts.house import House

TOP = 4294967295


class RatesAreTaken(unittest.TestCase):
    def test_answers_0(self):
        self.assertEqual(ask(rates(30, (95, 20), (80, 50), (60, 70))), [[0]])

    def test_without_bands(self):
        self.assertEqual(ask(rates(0)), [[0]])

    def test_at_the_beginning(self):
        house = House()
        self.assertEqual(house.again, 20)
        self.assertEqual(house.bands, [(100, 10), (75, 60)])

    def test_kept_in_the_place_of_the_earlier_ones(self):
        house = House()
        self.assertEqual(house.replace_rates(7, [(90, 1)]), [0])
        self.assertEqual(house.again, 7)
        self.assertEqual(house.bands, [(90, 1)])
        self.assertEqual(house.replace_rates(0, []), [0])
        self.assertEqual(house.again, 0)
        self.assertEqual(house.bands, [])

    def test_new_house_has_the_first_ones_whatever_another_was_told(self):
        House().replace_rates(7, [])
        self.assertEqual(House().again, 20)
        self.assertEqual(House().bands, [(100, 10), (75, 60)])

    def test_pay_may_rise_fall_or_stay(self):
        self.assertEqual(ask(rates(1, (9, 1), (8, 2)), rates(1, (9, 2), (8, 1)), rates(1, (9, 5), (8, 5))), [[0]] * 3)

    def test_files_and_memory_stay(self):
        self.assertEqual(ask(memory([1]), file([2]), rates(5), done(0))[2:], [[0], [0, 2]])


class RatesAreWrong(unittest.TestCase):
    def test_again_100_is_right_and_101_wrong(self):
        self.assertEqual(ask(rates(100), rates(101), rates(TOP)), [[0], [-1], [-1]])

    def test_again_above_100_is_wrong_with_bands_too(self):
        self.assertEqual(ask(rates(100, (50, 50)), rates(101, (50, 50))), [[0], [-1]])

    def test_4_bands_are_right_and_5_wrong(self):
        five = [(90, 1), (80, 2), (70, 3), (60, 4), (50, 5)]
        self.assertEqual(ask(rates(1, *five[:4]), rates(1, *five)), [[0], [-1]])

    def test_6_bands_are_wrong(self):
        self.assertEqual(ask(rates(1, *[(90 - k, k) for k in range(6)])), [[-1]])

    def test_how_near_100_is_right_and_101_wrong(self):
        self.assertEqual(ask(rates(1, (100, 1)), rates(1, (101, 1)), rates(1, (TOP, 1))), [[0], [-1], [-1]])

    def test_pay_100_is_right_and_101_wrong(self):
        self.assertEqual(ask(rates(1, (1, 100)), rates(1, (1, 101)), rates(1, (1, TOP))), [[0], [-1], [-1]])

    def test_number_above_100_is_found_in_any_band(self):
        for k in range(4):
            bands = [(90, 1), (80, 2), (70, 3), (60, 4)]
            bands[k] = (bands[k][0], 101)
            with self.subTest(bands=bands):
                self.assertEqual(ask(rates(1, *bands)), [[-1]])

    def test_0_for_0_is_right(self):
        self.assertEqual(ask(rates(0, (0, 0)), rates(0, (1, 0), (0, 0))), [[0], [0]])

    def test_same_twice_is_not_falling(self):
        self.assertEqual(ask(rates(1, (80, 2), (80, 1)), rates(1, (80, 2), (79, 1))), [[-1], [0]])

    def test_rising_is_not_falling(self):
        self.assertEqual(ask(rates(1, (80, 2), (81, 1))), [[-1]])

    def test_not_falling_is_found_in_any_band(self):
        for bands in ([(70, 1), (80, 1), (60, 1)], [(90, 1), (70, 1), (80, 1)], [(9, 1), (8, 1), (7, 1), (7, 1)]):
            with self.subTest(bands=bands):
                self.assertEqual(ask(rates(1, *bands)), [[-1]])

    def test_all_is_as_it_was_after_a_refusal(self):
        wrong = (
            (101, []),
            (5, [(k, 1) for k in (5, 4, 3, 2, 1)]),
            (5, [(50, 101)]),
            (5, [(101, 50)]),
            (5, [(50, 1), (50, 2)]),
        )
        for again, bands in wrong:
            with self.subTest(again=again, bands=bands):
                house = House()
                house.replace_rates(30, [(90, 15)])
                self.assertEqual(house.replace_rates(again, bands), [-1])
                self.assertEqual(house.again, 30)
                self.assertEqual(house.bands, [(90, 15)])

    def test_files_and_memory_are_as_they_were_after_a_refusal(self):
        self.assertEqual(ask(memory([1]), file([2]), rates(101), done(0))[2:], [[-1], [0, 2]])


if __name__ == "__main__":
    unittest.main()
