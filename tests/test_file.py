"""The call file: promise 1."""

import unittest

from building import ask, done, file, gone, memory, some_sentences

TOP = 4294967295


class FileIsTaken(unittest.TestCase):
    def test_answers_its_number_and_its_words(self):
        self.assertEqual(ask(file([1, 2, 3], [4, 5])), [[0, 5]])

    def test_same_words_and_same_sentences_count_each_time(self):
        self.assertEqual(ask(file([7, 7], [7, 7])), [[0, 4]])

    def test_without_sentences(self):
        self.assertEqual(ask(file(), file([1])), [[0, 0], [1, 1]])

    def test_numbers_go_up_from_0(self):
        self.assertEqual(ask(file([1]), file([1]), file([1])), [[0, 1], [1, 1], [2, 1]])

    def test_number_is_not_given_again_after_gone(self):
        self.assertEqual(ask(file([1]), gone(0), file([1])), [[0, 1], [0], [1, 1]])

    def test_number_of_the_last_is_not_given_again_after_gone(self):
        self.assertEqual(ask(file(), file(), gone(1), file()), [[0, 0], [1, 0], [1], [2, 0]])

    def test_number_is_not_given_again_after_done(self):
        self.assertEqual(ask(file([1]), done(0), file([1])), [[0, 1], [0, 1], [1, 1]])

    def test_refused_file_takes_no_number(self):
        self.assertEqual(ask(file([]), file([1])), [[-1], [0, 1]])


class FileIsWrong(unittest.TestCase):
    def test_8_sentences_are_right_and_9_wrong(self):
        self.assertEqual(ask(file(*some_sentences(8))), [[0, 8]])
        self.assertEqual(ask(file(*some_sentences(9))), [[-1]])

    def test_8_sentences_of_10_words_are_right(self):
        self.assertEqual(ask(file(*[[999] * 10] * 8)), [[0, 80]])

    def test_more_than_8_same_sentences_are_wrong(self):
        self.assertEqual(ask(file(*[[1]] * 9)), [[-1]])

    def test_1_word_is_right_and_none_wrong(self):
        self.assertEqual(ask(file([5])), [[0, 1]])
        self.assertEqual(ask(file([])), [[-1]])

    def test_10_words_are_right_and_11_wrong(self):
        self.assertEqual(ask(file(range(10))), [[0, 10]])
        self.assertEqual(ask(file(range(11))), [[-1]])

    def test_word_999_is_right_and_1000_wrong(self):
        self.assertEqual(ask(file([0, 999])), [[0, 2]])
        self.assertEqual(ask(file([0, 1000])), [[-1]])

    def test_greatest_number_as_a_word_is_wrong(self):
        self.assertEqual(ask(file([TOP])), [[-1]])

    def test_wrong_sentence_is_found_wherever_it_stands(self):
        for wrong in ([], [1] * 11, [1000], [1, 1000, 1], [1000, 1, 1]):
            for k in range(3):
                sentences = [[1], [2]]
                sentences.insert(k, wrong)
                with self.subTest(sentences=sentences):
                    self.assertEqual(ask(file(*sentences)), [[-1]])

    def test_longest_list_without_any_right_sentence(self):
        self.assertEqual(ask(file(*[[]] * 120), file([TOP] * 119)), [[-1], [-1]])

    def test_wrong_file_leaves_all_as_it_was(self):
        given = ask(memory([1]), file([1]), file([1], [1000]), file([1]), gone(0), done(1))
        self.assertEqual(given, [[1], [0, 1], [-1], [1, 1], [1], [0, 1]])


class FilesAreFull(unittest.TestCase):
    def test_6_files_are_taken_and_no_7th(self):
        given = ask(*[file([1])] * 7)
        self.assertEqual(given, [[0, 1], [1, 1], [2, 1], [3, 1], [4, 1], [5, 1], [-5]])

    def test_7th_without_sentences_is_refused_too(self):
        self.assertEqual(ask(*[file()] * 7)[6], [-5])

    def test_taken_again_when_one_has_gone(self):
        given = ask(*[file()] * 7, gone(3), file([1, 2]), file())
        self.assertEqual(given[6:], [[-5], [5], [6, 2], [-5]])

    def test_taken_again_when_one_is_done(self):
        given = ask(*[file()] * 7, done(0), file([1]), file())
        self.assertEqual(given[6:], [[-5], [5, 0], [6, 1], [-5]])

    def test_wrong_sentences_are_told_ahead_of_full(self):
        self.assertEqual(ask(*[file()] * 6, file([1000]))[6], [-1])


if __name__ == "__main__":
    unittest.main()
