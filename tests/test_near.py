"""The call near: how near two sentences are, and promise 1."""

import functools
import itertools
import unittest

from building import ask, last, near

TOP = 4294967295
FOUR = [1, 2, 3, 4]


def nearness(first, second):
    return last(near(first, second))


def plain_nearness(first, second):
    """The words of the document once more, tried out from the sentences' ends."""
    @functools.lru_cache(maxsize=None)
    def changes(i, k):
        if i == 0 or k == 0:
            return i + k
        if first[i - 1] == second[k - 1]:
            return changes(i - 1, k - 1)
        return 1 + min(changes(i - 1, k - 1), changes(i - 1, k), changes(i, k - 1))

    longer = max(len(first), len(second))
    return 100 * (longer - changes(len(first), len(second))) // longer


class HowNear(unittest.TestCase):
    def assert_near(self, first, second, expected):
        with self.subTest(first=first, second=second):
            self.assertEqual(nearness(first, second), [expected])
            self.assertEqual(nearness(second, first), [expected])

    def test_alike(self):
        for words in ([5], [0], [1, 2, 3], [7] * 10, list(range(990, 1000))):
            self.assert_near(words, words, 100)

    def test_nothing_in_common(self):
        self.assert_near([1], [2], 0)
        self.assert_near([1, 2, 3], [4, 5, 6], 0)
        self.assert_near([1], [2, 3, 4], 0)
        self.assert_near(range(10), range(10, 20), 0)

    def test_word_exchanged(self):
        self.assert_near(FOUR, [9, 2, 3, 4], 75)
        self.assert_near(FOUR, [1, 9, 3, 4], 75)
        self.assert_near(FOUR, [1, 2, 9, 4], 75)
        self.assert_near(FOUR, [1, 2, 3, 9], 75)

    def test_word_taken_out(self):
        for shorter in ([2, 3, 4], [1, 3, 4], [1, 2, 4], [1, 2, 3]):
            self.assert_near(FOUR, shorter, 75)

    def test_word_put_in(self):
        for longer in ([9, 1, 2, 3, 4], [1, 9, 2, 3, 4], [1, 2, 3, 9, 4], [1, 2, 3, 4, 9]):
            self.assert_near(FOUR, longer, 80)

    def test_word_taken_out_at_one_end_and_put_in_at_the_other(self):
        self.assert_near(FOUR, [2, 3, 4, 5], 50)
        self.assert_near(range(10), range(1, 11), 80)

    def test_several_changes(self):
        self.assert_near([1, 2, 3, 4, 5], [9, 2, 4, 5, 8], 40)
        self.assert_near([1, 2, 3, 4, 5, 6], [1, 9, 3, 4, 6], 66)

    def test_one_longer_than_the_other(self):
        self.assert_near([1], range(10), 10)
        self.assert_near([1, 2], [5, 1, 6, 2, 7], 40)
        self.assert_near(range(5), range(10), 50)
        self.assert_near(range(9), range(10), 90)

    def test_longer_one_is_what_is_divided_by(self):
        self.assert_near([1, 2], [1, 2, 3], 66)
        self.assert_near([1], [1, 2], 50)

    def test_rounded_down(self):
        self.assert_near([1, 2, 3], [1, 2, 9], 66)
        self.assert_near([1, 2, 3], [1, 8, 9], 33)
        self.assert_near(range(6), [0, 91, 92, 93, 94, 95], 16)
        self.assert_near(range(7), [0, 1, 2, 3, 4, 5, 99], 85)
        self.assert_near(range(8), [0, 1, 2, 3, 4, 5, 6, 99], 87)
        self.assert_near(range(9), [0, 1, 2, 3, 4, 5, 6, 7, 99], 88)

    def test_two_that_have_changed_places_are_two_changes(self):
        self.assert_near([1, 2], [2, 1], 0)
        self.assert_near([1, 2, 3, 4], [1, 3, 2, 4], 50)

    def test_turned_round(self):
        self.assert_near([1, 2, 3], [3, 2, 1], 33)

    def test_same_word_several_times(self):
        self.assert_near([1, 1, 1], [1], 33)
        self.assert_near([1, 1, 2], [1, 2, 2], 66)
        self.assert_near([1, 2, 1, 2], [2, 1, 2, 1], 50)
        self.assert_near([7] * 10, [7] * 7, 70)

    def test_all_short_ones_both_ways_round(self):
        short = [words for length in (1, 2, 3, 4) for words in itertools.product((0, 1), repeat=length)]
        for first in short:
            for second in short:
                self.assertEqual(nearness(first, second), [plain_nearness(first, second)], (first, second))

    def test_long_ones(self):
        long_ones = [tuple((k * step + k * k) % 4 for k in range(length))
                     for length in (8, 9, 10) for step in (1, 2, 3, 5, 7)]
        for first in long_ones:
            for second in long_ones:
                self.assertEqual(nearness(first, second), [plain_nearness(first, second)], (first, second))


class NearIsWrong(unittest.TestCase):
    def assert_wrong(self, words):
        for pair in ((words, FOUR), (FOUR, words), (words, words)):
            with self.subTest(pair=pair):
                self.assertEqual(nearness(*pair), [-1])

    def test_without_words(self):
        self.assert_wrong([])

    def test_10_words_are_right_and_11_wrong(self):
        self.assertEqual(nearness([1] * 10, [1] * 10), [100])
        self.assert_wrong([1] * 11)

    def test_word_999_is_right_and_1000_wrong(self):
        self.assertEqual(nearness([999, 0], [0, 999]), [0])
        self.assert_wrong([1000])
        self.assert_wrong([1, 1000, 2])
        self.assert_wrong([1000, 1, 2])
        self.assert_wrong([1, 2, 1000])
        self.assert_wrong([TOP])

    def test_wrong_ones_that_are_alike(self):
        self.assertEqual(nearness([1000], [1000]), [-1])
        self.assertEqual(nearness([], []), [-1])

    def test_longest_lists(self):
        self.assertEqual(nearness([1] * 38, []), [-1])
        self.assertEqual(nearness([], [1] * 38), [-1])
        self.assertEqual(nearness([TOP] * 19, [TOP] * 19), [-1])

    def test_wrong_sentences_are_gone_through_to_their_end(self):
        self.assertEqual(ask(near([], [1]), near([9] * 11, [9] * 2), near([1], [1])), [[-1], [-1], [100]])


if __name__ == "__main__":
    unittest.main()
