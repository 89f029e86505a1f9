"""The call count: what a job weighs, its words of each kind, and promise 2."""

import random
import unittest

from building import ask, count, done, file, gone, kinds, last, memory, rates

TOP = 4294967295
FOUR = [1, 2, 3, 4]
LIKE_FOUR = [1, 2, 3, 9]
# 4 words of the first band, 5 of the second (80), 3 new, 3 repeated.
SOME_OF_EACH = (memory(FOUR), file(FOUR, [1, 2, 3, 4, 5], [6, 7, 8], [6, 7, 8]))


def some_job(source):
    """A memory and three files over a few words, so that each kind comes about."""
    def sentences(how_many):
        return [[source.randrange(3) for k in range(source.randint(1, 4))] for j in range(how_many)]

    return [memory(*sentences(source.randint(0, 3)))] + [file(*sentences(source.randint(0, 6))) for k in range(3)]


class CountOfAJob(unittest.TestCase):
    def test_no_files(self):
        self.assertEqual(ask(count()), [[0, 0, 0, 0, 0]])

    def test_no_sentences(self):
        self.assertEqual(last(memory([1]), file(), count()), [0, 0, 0, 0, 0])
        self.assertEqual(last(file(), file([1]), count(0)), [0, 0, 0, 0, 0])

    def test_some_of_each(self):
        self.assertEqual(last(*SOME_OF_EACH, count()), [4 * 10 + 5 * 60 + 3 * 100 + 3 * 20, 3, 4, 5, 3])

    def test_words_are_counted_not_sentences(self):
        self.assertEqual(last(file([1] * 10, [2], [3] * 5), count()), [1600, 0, 0, 0, 16])

    def test_just_new(self):
        self.assertEqual(last(file(FOUR), count()), [400, 0, 0, 0, 4])

    def test_just_repeated_but_the_first(self):
        self.assertEqual(last(file([1, 2], [1, 2]), file([1, 2]), count()), [280, 4, 0, 0, 2])

    def test_just_of_the_first_band(self):
        self.assertEqual(last(memory(FOUR), file(FOUR, FOUR), count()), [80, 0, 8, 0, 0])

    def test_just_of_the_second_band(self):
        self.assertEqual(last(memory(FOUR), file(LIKE_FOUR), count()), [240, 0, 0, 4, 0])

    def test_greatest_job(self):
        sentences = [[100 * k + j for j in range(10)] for k in range(8)]
        files = [file(*[[word + 10 * number for word in words] for words in sentences]) for number in range(6)]
        self.assertEqual(last(*files, count()), [48000, 0, 0, 0, 480])


class CountAfterRates(unittest.TestCase):
    def test_again_and_bands_as_told(self):
        given = last(*SOME_OF_EACH, rates(7, (90, 11), (80, 53), (60, 71)), count())
        self.assertEqual(given, [4 * 11 + 5 * 53 + 3 * 100 + 3 * 7, 3, 4, 5, 0, 3])

    def test_told_ahead_of_the_files(self):
        given = last(rates(7, (90, 11), (80, 53)), *SOME_OF_EACH, count())
        self.assertEqual(given, [4 * 11 + 5 * 53 + 3 * 100 + 3 * 7, 3, 4, 5, 3])

    def test_no_bands(self):
        self.assertEqual(last(*SOME_OF_EACH, rates(7), count()), [12 * 100 + 3 * 7, 3, 12])

    def test_one_band(self):
        self.assertEqual(last(*SOME_OF_EACH, rates(7, (81, 5)), count()), [4 * 5 + 8 * 100 + 3 * 7, 3, 4, 8])
        self.assertEqual(last(*SOME_OF_EACH, rates(7, (80, 5)), count()), [9 * 5 + 3 * 100 + 3 * 7, 3, 9, 3])

    def test_four_bands(self):
        given = last(*SOME_OF_EACH, rates(7, (100, 1), (99, 2), (81, 3), (80, 4)), count())
        self.assertEqual(given, [4 * 1 + 5 * 4 + 3 * 100 + 3 * 7, 3, 4, 0, 0, 5, 3])

    def test_band_told_by_0(self):
        self.assertEqual(last(file([1], [2, 3]), rates(20, (0, 50)), count()), [200, 0, 2, 1])

    def test_paid_0_and_100(self):
        self.assertEqual(last(*SOME_OF_EACH, rates(0, (75, 0)), count()), [300, 3, 9, 3])
        self.assertEqual(last(*SOME_OF_EACH, rates(100, (75, 100)), count()), [1500, 3, 9, 3])

    def test_last_told_hold(self):
        given = ask(file([1], [1]), count(), rates(50), count(), rates(60, (90, 1)), count())
        self.assertEqual([given[k] for k in (1, 3, 5)], [[120, 1, 0, 0, 1], [150, 1, 1], [160, 1, 0, 1]])

    def test_refused_ones_are_not_kept(self):
        for wrong in (rates(101), rates(5, (50, 101)), rates(5, (101, 50)), rates(5, (50, 1), (50, 2)),
                      rates(5, (50, 1), (60, 2)), rates(5, *[(9 - k, 1) for k in range(5)])):
            with self.subTest(wrong=wrong):
                given = ask(*SOME_OF_EACH, rates(7, (90, 11)), wrong, count())
                self.assertEqual(given[3:], [[-1], [4 * 11 + 8 * 100 + 3 * 7, 3, 4, 8]])

    def test_first_ones_are_there_after_a_refusal(self):
        self.assertEqual(last(rates(101, (90, 1)), *SOME_OF_EACH, count()), [700, 3, 4, 5, 3])


class FilesTold(unittest.TestCase):
    # Four words and the same four with a fifth: near by 80, whichever of them is ahead.
    FILES = (file(FOUR), file([1, 2, 3, 4, 5]), file([7, 7]))

    def test_order_in_which_they_are_told(self):
        self.assertEqual(last(*self.FILES, count(0, 1)), [700, 0, 0, 5, 4])
        self.assertEqual(last(*self.FILES, count(1, 0)), [740, 0, 0, 4, 5])

    def test_some_of_them(self):
        self.assertEqual(last(*self.FILES, count(1)), [500, 0, 0, 0, 5])
        self.assertEqual(last(*self.FILES, count(2, 0)), [600, 0, 0, 0, 6])

    def test_none_told_all_by_their_numbers(self):
        self.assertEqual(last(*self.FILES, count()), [900, 0, 0, 5, 6])
        self.assertEqual(last(*self.FILES, gone(0), file(FOUR), count()), [940, 0, 0, 4, 7])


class CountsHoldTogether(unittest.TestCase):
    def test_each_word_is_counted_once(self):
        source = random.Random(5)
        for k in range(100):
            given = ask(*some_job(source), count())
            self.assertEqual(sum(given[4][1:]), given[1][1] + given[2][1] + given[3][1])

    def test_as_kinds_tells_them(self):
        source = random.Random(6)
        for k in range(100):
            calls = some_job(source)
            given = ask(*calls, rates(33, (100, 7), (60, 41), (30, 73)), kinds(2, 0, 1), count(2, 0, 1))
            paid = (33, 7, 41, 73, 100)
            lengths = [length for number in (3, 1, 2) for length in lengths_of(calls[number])]
            counted = [0] * 5
            for kind, length in zip(given[5][1:], lengths, strict=True):
                counted[kind] += length
            self.assertEqual(given[6], [sum(a * b for a, b in zip(counted, paid))] + counted)


def lengths_of(call):
    lengths = []
    place = 2
    while place < len(call):
        lengths.append(call[place])
        place += 1 + call[place]
    return lengths


class CountIsRefused(unittest.TestCase):
    def test_there_is_no_such_file(self):
        self.assertEqual(ask(count(0)), [[-2]])
        self.assertEqual(ask(file([1]), count(1), count(TOP)), [[0, 1], [-2], [-2]])

    def test_gone_or_done(self):
        self.assertEqual(last(file([1]), file([1]), gone(0), count(0)), [-2])
        self.assertEqual(last(file([1]), file([1]), done(1), count(1)), [-2])

    def test_refused_wherever_it_stands(self):
        for numbers in ([9, 0, 1], [0, 9, 1], [0, 1, 9]):
            with self.subTest(numbers=numbers):
                self.assertEqual(last(file([1]), file([2]), count(*numbers)), [-2])

    def test_told_twice(self):
        for numbers in ([0, 0], [0, 1, 0], [1, 0, 0], [1, 1, 0], [9, 9], [0] * 10):
            with self.subTest(numbers=numbers):
                self.assertEqual(last(file([1]), file([2]), count(*numbers)), [-2])

    def test_refused_rows_are_gone_through_to_their_end(self):
        self.assertEqual(ask(file([1]), count(9, 9, 9), count(0)), [[0, 1], [-2], [100, 0, 0, 0, 1]])


if __name__ == "__main__":
    unittest.main()
