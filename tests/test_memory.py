"""The call memory: promise 1."""

import unittest

from building import ask, done, file, memory, some_sentences
from wordcounts.house import House

TOP = 4294967295


class MemoryIsTaken(unittest.TestCase):
    def test_empty_at_the_beginning(self):
        self.assertEqual(ask(file(), done(0))[1], [0, 0])
        self.assertEqual(House().memory, [])

    def test_answers_how_many(self):
        self.assertEqual(ask(memory([1, 2], [3], [4])), [[3]])

    def test_without_sentences(self):
        self.assertEqual(ask(memory()), [[0]])

    def test_stands_in_the_place_of_the_earlier_one(self):
        given = ask(memory([1], [2]), memory([3]), file([1], [3]), done(0))
        self.assertEqual(given, [[2], [1], [0, 2], [0, 2]])

    def test_emptied_by_one_without_sentences(self):
        given = ask(memory([1], [2]), memory(), file([1]), done(0))
        self.assertEqual(given, [[2], [0], [0, 1], [0, 1]])

    def test_stands_in_the_place_of_what_was_done(self):
        given = ask(file([1]), file([1]), done(0), memory([2]), done(1))
        self.assertEqual(given[2:], [[1, 1], [1], [0, 2]])

    def test_kept_as_told_also_what_is_told_twice(self):
        given = ask(memory([1], [1], [2]), file([1], [3]), done(0))
        self.assertEqual(given, [[3], [0, 2], [0, 4]])

    def test_kept_in_order(self):
        house = House()
        house.replace_memory([(3,), (1, 2), (3,)])
        self.assertEqual(house.memory, [(3,), (1, 2), (3,)])

    def test_files_stay(self):
        self.assertEqual(ask(file([1]), memory([2]), done(0)), [[0, 1], [1], [0, 2]])


class MemoryIsWrong(unittest.TestCase):
    def test_20_sentences_are_right_and_21_wrong(self):
        self.assertEqual(ask(memory(*some_sentences(20))), [[20]])
        self.assertEqual(ask(memory(*some_sentences(21))), [[-1]])

    def test_20_sentences_of_10_words_are_right(self):
        self.assertEqual(ask(memory(*[[999] * 10] * 20)), [[20]])

    def test_1_word_is_right_and_none_wrong(self):
        self.assertEqual(ask(memory([5])), [[1]])
        self.assertEqual(ask(memory([])), [[-1]])

    def test_10_words_are_right_and_11_wrong(self):
        self.assertEqual(ask(memory(range(10))), [[1]])
        self.assertEqual(ask(memory(range(11))), [[-1]])

    def test_word_999_is_right_and_1000_wrong(self):
        self.assertEqual(ask(memory([0, 999])), [[1]])
        self.assertEqual(ask(memory([0, 1000])), [[-1]])

    def test_wrong_sentence_is_found_wherever_it_stands(self):
        for wrong in ([], [1] * 11, [1000], [TOP, 1]):
            for k in range(3):
                sentences = [[1], [2]]
                sentences.insert(k, wrong)
                with self.subTest(sentences=sentences):
                    self.assertEqual(ask(memory(*sentences)), [[-1]])

    def test_longest_list_without_any_right_sentence(self):
        self.assertEqual(ask(memory(*[[]] * 260), memory([TOP] * 259)), [[-1], [-1]])

    def test_memory_is_as_it_was_after_a_refusal(self):
        for wrong in (memory([3], []), memory([3], [1000]), memory(*some_sentences(21))):
            with self.subTest(wrong=wrong):
                given = ask(memory([1], [2]), wrong, file([2], [3]), done(0))
                self.assertEqual(given, [[2], [-1], [0, 2], [0, 3]])

    def test_house_is_as_it_was_after_a_refusal(self):
        house = House()
        house.replace_memory([(2,), (1,)])
        self.assertEqual(house.replace_memory([(3,), ()]), [-1])
        self.assertEqual(house.memory, [(2,), (1,)])


if __name__ == "__main__":
    unittest.main()
