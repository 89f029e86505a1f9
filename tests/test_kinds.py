"""The call kinds: of which kind each sentence of a job is, and promise 2."""

import unittest

from building import ask, done, file, gone, kinds, last, memory, rates

TOP = 4294967295
FOUR = [1, 2, 3, 4]
# Three words of four are as in FOUR: 75.
LIKE_FOUR = [1, 2, 3, 9]
# Two words of four are as in FOUR, three as in LIKE_FOUR.
LESS_LIKE_FOUR = [1, 2, 8, 9]


class NothingToTell(unittest.TestCase):
    def test_no_files(self):
        self.assertEqual(ask(kinds()), [[0]])

    def test_no_files_but_a_memory(self):
        self.assertEqual(last(memory(FOUR), kinds()), [0])

    def test_no_sentences(self):
        self.assertEqual(last(file(), file(), kinds()), [0])
        self.assertEqual(last(file(), file(FOUR), kinds(0)), [0])

    def test_all_files_have_gone(self):
        self.assertEqual(last(file(FOUR), gone(0), kinds()), [0])


class Repeated(unittest.TestCase):
    def test_within_one_file(self):
        self.assertEqual(last(file([1], [2], [1]), kinds()), [3, 3, 3, 0])

    def test_across_files(self):
        self.assertEqual(last(file([1]), file([2], [1]), kinds()), [3, 3, 3, 0])

    def test_across_a_file_without_sentences(self):
        self.assertEqual(last(file([1]), file(), file([1]), kinds()), [2, 3, 0])

    def test_each_time_but_the_first(self):
        self.assertEqual(last(file([1], [1], [1]), file([1]), kinds()), [4, 3, 0, 0, 0])

    def test_just_the_same_words_in_the_same_order(self):
        given = last(file([1, 2], [2, 1], [1], [1, 2, 2], [1, 2]), kinds())
        self.assertEqual(given, [5, 3, 3, 3, 3, 0])

    def test_ahead_of_any_band(self):
        self.assertEqual(last(rates(20, (0, 5)), file([1], [1]), kinds()), [2, 2, 0])

    def test_just_by_what_stands_ahead_in_the_job(self):
        calls = file([1]), file([1])
        self.assertEqual(last(*calls, kinds(0)), [1, 3])
        self.assertEqual(last(*calls, kinds(1)), [1, 3])

    def test_not_by_a_file_that_has_gone(self):
        self.assertEqual(last(file([1]), file([1]), gone(0), kinds()), [1, 3])


class InTheMemory(unittest.TestCase):
    def test_alike_in_the_memory(self):
        self.assertEqual(last(memory([1]), file([1]), kinds()), [1, 1])

    def test_stood_ahead_and_is_in_the_memory(self):
        self.assertEqual(last(memory([1]), file([1], [1]), file([1]), kinds()), [3, 1, 1, 1])

    def test_stood_ahead_and_is_in_the_memory_without_bands(self):
        given = last(rates(20), memory([1]), file([1], [1], [2], [2]), kinds())
        self.assertEqual(given, [4, 1, 1, 1, 0])

    def test_stood_ahead_and_is_in_the_memory_with_a_low_band(self):
        given = last(rates(20, (30, 5)), memory([7], [1]), file([1], [2], [1], [2]), kinds())
        self.assertEqual(given, [4, 1, 2, 1, 0])

    def test_put_there_by_done(self):
        given = last(file(FOUR), file(FOUR, LIKE_FOUR, FOUR), done(0), kinds())
        self.assertEqual(given, [3, 1, 2, 1])

    def test_no_more_there_when_another_memory_is_told(self):
        self.assertEqual(last(memory([1]), memory([2]), file([1], [1]), kinds()), [2, 3, 0])


class Nearest(unittest.TestCase):
    def test_in_the_memory(self):
        self.assertEqual(last(memory(FOUR), file(LIKE_FOUR), kinds()), [1, 2])

    def test_anywhere_in_the_memory(self):
        for sentences in ([FOUR, [5], [6]], [[5], FOUR, [6]], [[5], [6], FOUR]):
            with self.subTest(sentences=sentences):
                self.assertEqual(last(memory(*sentences), file(LIKE_FOUR), kinds()), [1, 2])

    def test_ahead_in_the_job(self):
        self.assertEqual(last(file(FOUR, LIKE_FOUR), kinds()), [2, 3, 2])
        self.assertEqual(last(file(FOUR), file(LIKE_FOUR), kinds()), [2, 3, 2])

    def test_anywhere_ahead_in_the_job(self):
        for sentences in ([FOUR, [5], [6]], [[5], FOUR, [6]], [[5], [6], FOUR]):
            with self.subTest(sentences=sentences):
                self.assertEqual(last(file(*sentences, LIKE_FOUR), kinds()), [4, 3, 3, 3, 2])

    def test_not_behind_in_the_job(self):
        self.assertEqual(last(file([1, 2, 3, 4, 5], FOUR, [1]), kinds()), [3, 3, 2, 3])
        self.assertEqual(last(file([1], FOUR, [1, 2, 3, 4, 5]), kinds()), [3, 3, 3, 2])

    def test_not_in_a_file_that_the_job_has_not(self):
        self.assertEqual(last(file(FOUR), file(LIKE_FOUR), kinds(1)), [1, 3])

    def test_memory_is_nearer_than_what_stands_ahead(self):
        given = last(memory(LIKE_FOUR), file(FOUR, LESS_LIKE_FOUR), kinds())
        self.assertEqual(given, [2, 2, 2])

    def test_what_stands_ahead_is_nearer_than_the_memory(self):
        given = last(memory(FOUR), file(LIKE_FOUR, LESS_LIKE_FOUR), kinds())
        self.assertEqual(given, [2, 2, 2])
        self.assertEqual(last(memory(FOUR), file(LESS_LIKE_FOUR), kinds()), [1, 3])

    def test_ahead_is_what_is_repeated_too(self):
        self.assertEqual(last(file(FOUR, FOUR, LIKE_FOUR), kinds()), [3, 3, 0, 2])


class BandsReached(unittest.TestCase):
    def assert_kind(self, bands, expected):
        with self.subTest(bands=bands):
            self.assertEqual(last(rates(20, *bands), memory([1, 2, 3]), file([1, 2, 9]), kinds()), [1, expected])

    def test_just_as_near_and_one_less(self):
        # The sentence is near by 66.
        self.assert_kind([(65, 5)], 1)
        self.assert_kind([(66, 5)], 1)
        self.assert_kind([(67, 5)], 2)

    def test_just_as_near_as_the_first_bands(self):
        self.assertEqual(last(memory(FOUR), file(FOUR), kinds()), [1, 1])
        self.assertEqual(last(memory(FOUR), file(LIKE_FOUR), kinds()), [1, 2])
        # 77 and 66, on both sides of 75.
        nine = [1, 2, 3, 4, 5, 6, 7, 8, 9]
        self.assertEqual(last(memory(nine), file([1, 2, 3, 4, 5, 6, 7, 0, 0]), kinds()), [1, 2])
        self.assertEqual(last(memory(nine), file([1, 2, 3, 4, 5, 6, 0, 0, 0]), kinds()), [1, 3])

    def test_first_of_several(self):
        self.assert_kind([(66, 5), (65, 6), (10, 7), (0, 8)], 1)
        self.assert_kind([(67, 5), (66, 6), (65, 7), (0, 8)], 2)
        self.assert_kind([(100, 5), (67, 6), (66, 7), (65, 8)], 3)
        self.assert_kind([(100, 5), (99, 6), (67, 7), (66, 8)], 4)

    def test_pay_does_not_choose(self):
        self.assert_kind([(60, 90), (50, 10)], 1)
        self.assert_kind([(60, 10), (50, 90)], 1)

    def test_new_is_one_more_than_there_are_bands(self):
        bands = [(100, 5), (90, 6), (80, 7), (70, 8)]
        for how_many in range(5):
            self.assert_kind(bands[:how_many], how_many + 1)

    def test_no_bands(self):
        given = last(rates(20), memory(FOUR), file(FOUR, LIKE_FOUR, LIKE_FOUR, [7]), kinds())
        self.assertEqual(given, [4, 1, 1, 0, 1])

    def test_band_told_by_0_with_sentences_in_the_memory(self):
        self.assertEqual(last(rates(20, (0, 5)), memory([1]), file([2], [3]), kinds()), [2, 1, 1])

    def test_band_told_by_0_with_sentences_ahead(self):
        self.assertEqual(last(rates(20, (0, 5)), file([2], [3]), kinds()), [2, 2, 1])

    def test_band_told_by_0_without_any(self):
        self.assertEqual(last(rates(20, (50, 4), (0, 5)), file([2]), file([3]), kinds(1)), [1, 3])

    def test_band_told_by_1_and_nothing_in_common(self):
        self.assertEqual(last(rates(20, (1, 5)), memory([1]), file([2], [3]), kinds()), [2, 2, 2])


class FilesTold(unittest.TestCase):
    def test_order_in_which_they_are_told(self):
        calls = file(FOUR), file(FOUR, [7])
        self.assertEqual(last(*calls, kinds(0, 1)), [3, 3, 0, 3])
        self.assertEqual(last(*calls, kinds(1, 0)), [3, 3, 3, 0])

    def test_some_of_them(self):
        calls = file([1]), file([2], [3]), file([2]), file([1])
        self.assertEqual(last(*calls, kinds(3, 0)), [2, 3, 0])
        self.assertEqual(last(*calls, kinds(2, 1)), [3, 3, 0, 3])
        self.assertEqual(last(*calls, kinds(3, 1)), [3, 3, 3, 3])

    def test_none_told_all_by_their_numbers(self):
        calls = file(FOUR), file(FOUR, [7])
        self.assertEqual(last(*calls, kinds()), [3, 3, 0, 3])
        self.assertEqual(last(file([9]), *calls, gone(0), file([7]), kinds()), [4, 3, 0, 3, 0])

    def test_six_files(self):
        calls = [file([k], [0]) for k in range(6)]
        self.assertEqual(last(*calls, kinds()), [12, 3, 0, 3, 0, 3, 0, 3, 0, 3, 0, 3, 0])
        self.assertEqual(last(*calls, kinds(5, 4, 3, 2, 1, 0)), [12, 3, 3, 3, 0, 3, 0, 3, 0, 3, 0, 0, 0])


class KindsIsRefused(unittest.TestCase):
    def test_there_is_no_such_file(self):
        self.assertEqual(ask(kinds(0)), [[-2]])
        self.assertEqual(ask(file([1]), kinds(1), kinds(TOP)), [[0, 1], [-2], [-2]])

    def test_gone(self):
        self.assertEqual(last(file([1]), file([1]), gone(0), kinds(0)), [-2])

    def test_done(self):
        self.assertEqual(last(file([1]), file([1]), done(1), kinds(1)), [-2])

    def test_refused_wherever_it_stands(self):
        for numbers in ([9, 0, 1], [0, 9, 1], [0, 1, 9]):
            with self.subTest(numbers=numbers):
                self.assertEqual(last(file([1]), file([2]), kinds(*numbers)), [-2])

    def test_told_twice(self):
        for numbers in ([0, 0], [0, 1, 0], [1, 0, 0], [1, 1, 0], [9, 9], [0] * 10):
            with self.subTest(numbers=numbers):
                self.assertEqual(last(file([1]), file([2]), kinds(*numbers)), [-2])

    def test_told_twice_without_sentences(self):
        self.assertEqual(last(file(), kinds(0, 0)), [-2])

    def test_refused_rows_are_gone_through_to_their_end(self):
        self.assertEqual(ask(file([1]), kinds(9, 9, 9), kinds(0)), [[0, 1], [-2], [1, 3]])


if __name__ == "__main__":
    unittest.main()
