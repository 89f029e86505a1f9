"""The call shows: the files and how much the memory has."""

import unittest

from building import ask, done, file, gone, last, memory, rates, shows, some_sentences


class Shows(unittest.TestCase):
    def test_at_the_beginning(self):
        self.assertEqual(ask(shows()), [[0, 0]])

    def test_after_file(self):
        given = ask(file([1, 2], [3]), shows(), file(), shows(), file([4]), shows())
        self.assertEqual(given[1::2], [[1, 0, 0, 2], [2, 0, 0, 2, 1, 0], [3, 0, 0, 2, 1, 0, 2, 1]])

    def test_sentences_are_told_not_words(self):
        self.assertEqual(last(file([1, 2, 3], [1, 2, 3], [4]), shows()), [1, 0, 0, 3])

    def test_after_gone(self):
        given = ask(file([1]), file([2], [3]), gone(0), shows(), gone(1), shows())
        self.assertEqual(given[3::2], [[1, 0, 1, 2], [0, 0]])

    def test_after_memory(self):
        given = ask(memory([1], [2]), shows(), memory([3]), shows(), memory(), shows())
        self.assertEqual(given[1::2], [[0, 2], [0, 1], [0, 0]])

    def test_what_is_told_twice_to_memory_counts_twice(self):
        self.assertEqual(last(memory([1], [1]), shows()), [0, 2])

    def test_after_done(self):
        given = ask(memory([1]), file([1], [2], [2], [3]), file([3], [4]), done(0), shows(), done(1), shows())
        self.assertEqual(given[4::2], [[1, 3, 1, 2], [0, 4]])

    def test_after_rates(self):
        self.assertEqual(last(memory([1]), file([1]), rates(5, (9, 9)), shows()), [1, 1, 0, 1])

    def test_files_by_their_numbers(self):
        given = last(file(), file([1]), file([1], [2]), gone(1), file([3], [4], [5]), shows())
        self.assertEqual(given, [3, 0, 0, 0, 2, 2, 3, 3])

    def test_all_full(self):
        files = [file(*some_sentences(8)) for k in range(6)]
        given = last(memory(*some_sentences(20)), *files, shows())
        self.assertEqual(given, [6, 20, 0, 8, 1, 8, 2, 8, 3, 8, 4, 8, 5, 8])

    def test_after_refusals(self):
        given = ask(memory([1]), file([2]), file([]), gone(1), memory([]), done(1), rates(101), shows())
        self.assertEqual(given[2:], [[-1], [-2], [-1], [-2], [-1], [1, 1, 0, 1]])

    def test_file_too_many_is_not_shown(self):
        given = last(*[file([1])] * 7, shows())
        self.assertEqual(given, [6, 0, 0, 1, 1, 1, 2, 1, 3, 1, 4, 1, 5, 1])

    def test_file_that_the_memory_has_no_room_for_is_shown(self):
        given = last(memory(*some_sentences(19)), file([100], [101]), done(0), shows())
        self.assertEqual(given, [1, 19, 0, 2])


if __name__ == "__main__":
    unittest.main()
