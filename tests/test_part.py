"""The call part: the best deal, and promise 3."""

import itertools
import random
import unittest

from building import ask, count, done, file, gone, last, memory, part, rates

TOP = 4294967295


def file_of(how_many):
    """A file of so many words, no two the same: it weighs 100 for each of them."""
    words = list(range(how_many))
    return file(*[words[k:k + 10] for k in range(0, how_many, 10)])


def dealt(hands, *words):
    """What part answers for files of so many words, weights told as these words."""
    given = last(*[file_of(how_many) for how_many in words], part(hands))
    return [given[0] // 100, given[1] // 100] + given[2:]


def plainly_best(hands, weights):
    """The words of the document once more: each deal is looked at, in order."""
    def answer(deal):
        loads = [sum(weight for weight, hand in zip(weights, deal) if hand == k) for k in range(hands)]
        return [max(loads), min(loads)] + list(deal)

    every = [answer(deal) for deal in itertools.product(range(hands), repeat=len(weights))]
    return min(every, key=lambda told: (told[0], -told[1], told[2:]))


class Hands(unittest.TestCase):
    def test_0_hands_are_wrong(self):
        self.assertEqual(ask(part(0)), [[-1]])
        self.assertEqual(last(file([1]), part(0)), [-1])

    def test_5_hands_are_wrong(self):
        self.assertEqual(ask(part(5), part(TOP)), [[-1], [-1]])
        self.assertEqual(last(file([1]), part(5)), [-1])

    def test_1_to_4_hands(self):
        given = ask(*[file_of(k) for k in (4, 3, 2, 1)], part(1), part(2), part(3), part(4))
        self.assertEqual(given[4:], [
            [1000, 1000, 0, 0, 0, 0],
            [500, 500, 0, 1, 1, 0],
            [400, 300, 0, 1, 2, 2],
            [400, 100, 0, 1, 2, 3],
        ])


class FewFiles(unittest.TestCase):
    def test_no_files(self):
        self.assertEqual(ask(part(1), part(2), part(3), part(4)), [[0, 0]] * 4)

    def test_no_files_but_a_memory(self):
        self.assertEqual(last(memory([1]), file([2]), gone(0), part(2)), [0, 0])

    def test_fewer_files_than_hands(self):
        self.assertEqual(dealt(4, 2, 1), [2, 0, 0, 1])
        self.assertEqual(dealt(3, 7), [7, 0, 0])
        self.assertEqual(dealt(4, 3, 3, 3), [3, 0, 0, 1, 2])
        self.assertEqual(dealt(4, 5, 2, 2), [5, 0, 0, 1, 1])

    def test_as_many_files_as_hands(self):
        self.assertEqual(dealt(3, 1, 2, 3), [3, 1, 0, 1, 2])


class FilesThatWeigh0(unittest.TestCase):
    def test_without_sentences(self):
        self.assertEqual(ask(file(), part(1), part(4)), [[0, 0], [0, 0, 0], [0, 0, 0]])
        self.assertEqual(dealt(3, 0, 0, 0), [0, 0, 0, 0, 0])

    def test_among_others(self):
        self.assertEqual(dealt(2, 0, 1, 0), [1, 0, 0, 0, 0])
        self.assertEqual(dealt(2, 1, 0, 1, 0), [1, 1, 0, 0, 1, 0])

    def test_paid_0(self):
        given = last(rates(0, (100, 0)), memory([1]), file([1]), file([2]), file([1]), file([3]), part(2))
        self.assertEqual(given, [100, 100, 0, 0, 0, 1])


class BestDeal(unittest.TestCase):
    def test_greatest_load_is_least(self):
        # Each to the hand that has least, the heaviest first, would be 7.
        self.assertEqual(dealt(2, 3, 3, 2, 2, 2), [6, 6, 0, 0, 1, 1, 1])
        self.assertEqual(dealt(3, 5, 5, 4, 4, 3, 3), [8, 8, 0, 1, 2, 2, 0, 1])

    def test_of_these_the_least_load_is_greatest(self):
        self.assertEqual(dealt(3, 10, 3, 3, 2), [10, 3, 0, 1, 2, 1])
        self.assertEqual(dealt(3, 9, 1, 1, 1, 1), [9, 2, 0, 1, 1, 2, 2])
        self.assertEqual(dealt(4, 8, 1, 2, 3, 4, 5), [8, 5, 0, 1, 2, 2, 1, 3])

    def test_greatest_load_goes_ahead_of_the_least(self):
        # 18 + 7, 11 + 8 and 10 + 9 would have a least load of 19, but a greatest of 25.
        self.assertEqual(dealt(3, 18, 11, 10, 9, 8, 7), [24, 18, 0, 1, 1, 2, 2, 2])

    def test_of_several_the_first(self):
        self.assertEqual(dealt(2, 1, 1, 1, 1), [2, 2, 0, 0, 1, 1])
        self.assertEqual(dealt(3, 1, 1, 1), [1, 1, 0, 1, 2])
        self.assertEqual(dealt(2, 2, 1, 1), [2, 2, 0, 1, 1])
        self.assertEqual(dealt(2, 1, 2, 1), [2, 2, 0, 1, 0])
        self.assertEqual(dealt(2, 1, 1, 2), [2, 2, 0, 0, 1])
        self.assertEqual(dealt(4, 1, 1, 1, 1, 1, 1), [2, 1, 0, 0, 1, 1, 2, 3])

    def test_greatest_load_may_be_of_any_hand(self):
        self.assertEqual(dealt(2, 1, 5), [5, 1, 0, 1])
        self.assertEqual(dealt(2, 5, 1), [5, 1, 0, 1])

    def test_six_files_to_four_hands(self):
        self.assertEqual(dealt(4, 7, 6, 5, 4, 3, 2), [7, 6, 0, 1, 2, 3, 3, 2])
        self.assertEqual(dealt(4, 2, 3, 4, 5, 6, 7), [7, 6, 0, 1, 1, 0, 2, 3])
        self.assertEqual(dealt(4, 80, 80, 80, 80, 80, 80), [160, 80, 0, 0, 1, 1, 2, 3])

    def test_as_each_deal_looked_at_tells(self):
        source = random.Random(7)
        for hands in (1, 2, 3, 4):
            for how_many in range(7):
                for greatest in (2, 6, 80):
                    words = [source.randint(0, greatest) for k in range(how_many)]
                    with self.subTest(hands=hands, words=words):
                        self.assertEqual(dealt(hands, *words), plainly_best(hands, words))


class WhatAFileWeighs(unittest.TestCase):
    def test_each_as_a_job_by_itself(self):
        given = ask(file([1, 2]), file([1, 2]), part(1), part(2), count())
        self.assertEqual(given[2:], [[400, 400, 0, 0], [200, 200, 0, 1], [240, 2, 0, 0, 2]])

    def test_nearly_the_same_in_two_files(self):
        self.assertEqual(last(file([1, 2, 3, 4]), file([1, 2, 3, 9]), part(2)), [400, 400, 0, 1])

    def test_repeated_within_a_file(self):
        self.assertEqual(last(file([1, 2], [1, 2]), part(1)), [240, 240, 0])

    def test_nearly_the_same_within_a_file(self):
        self.assertEqual(last(file([1, 2, 3, 4], [1, 2, 3, 9]), part(1)), [640, 640, 0])

    def test_in_the_memory(self):
        given = last(memory([1, 2]), file([1, 2]), file([1, 2], [1, 2]), part(2))
        self.assertEqual(given, [40, 20, 0, 1])

    def test_by_the_rates_told(self):
        given = last(rates(7, (60, 31)), memory([1, 2, 3]), file([1, 2, 9], [5], [5]), part(1))
        self.assertEqual(given, [3 * 31 + 100 + 7] * 2 + [0])

    def test_all_files_by_their_numbers(self):
        given = last(file_of(9), file_of(1), file_of(5), gone(0), file_of(6), part(2))
        self.assertEqual(given, [600, 600, 0, 0, 1])

    def test_what_is_done_is_not_dealt(self):
        given = last(file([1, 2]), file([1, 2]), file([3]), done(0), part(2))
        self.assertEqual(given, [100, 20, 0, 1])


if __name__ == "__main__":
    unittest.main()
