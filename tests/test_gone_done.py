"""The calls gone and done: promise 2."""

import unittest

from building import ask, done, file, gone, memory, some_sentences
from wordcounts.house import House

TOP = 4294967295


def house_with(memory_sentences, *files):
    house = House()
    house.replace_memory(memory_sentences)
    for sentences in files:
        house.add_file(sentences)
    return house


class Gone(unittest.TestCase):
    def test_answers_how_many_files_there_are_then(self):
        given = ask(file(), file(), file(), gone(1), gone(0), gone(2))
        self.assertEqual(given[3:], [[2], [1], [0]])

    def test_never_given(self):
        self.assertEqual(ask(gone(0), file(), gone(1), gone(TOP)), [[-2], [0, 0], [-2], [-2]])

    def test_gone_before(self):
        self.assertEqual(ask(file(), gone(0), gone(0)), [[0, 0], [0], [-2]])

    def test_done_before(self):
        self.assertEqual(ask(file(), done(0), gone(0)), [[0, 0], [0, 0], [-2]])

    def test_refusal_leaves_the_files(self):
        self.assertEqual(ask(file(), file(), gone(2), gone(0)), [[0, 0], [1, 0], [-2], [1]])

    def test_memory_stays(self):
        given = ask(memory([1]), file([2]), file([3]), gone(0), done(1))
        self.assertEqual(given[3:], [[1], [0, 2]])

    def test_just_that_file_goes(self):
        house = house_with([], [(1,)], [(2,)], [(3,)])
        house.drop_file(1)
        self.assertEqual(house.files, {0: [(1,)], 2: [(3,)]})


class DoneIsTaken(unittest.TestCase):
    def test_answers_files_and_sentences_of_the_memory(self):
        given = ask(memory([9]), file([1], [2, 3]), file([4]), done(0), done(1))
        self.assertEqual(given[3:], [[1, 3], [0, 4]])

    def test_what_the_memory_has_is_not_put_there_again(self):
        given = ask(memory([1, 2], [3]), file([3], [1, 2], [2, 1], [1]), done(0))
        self.assertEqual(given[2], [0, 4])

    def test_each_once(self):
        self.assertEqual(ask(file([1], [1], [2], [1], [2]), done(0))[1], [0, 2])

    def test_put_there_by_another_file_before(self):
        self.assertEqual(ask(file([1], [2]), file([2], [3]), done(0), done(1))[2:], [[1, 2], [0, 3]])

    def test_without_sentences(self):
        self.assertEqual(ask(memory([1]), file(), done(0)), [[1], [0, 0], [0, 1]])

    def test_put_behind_the_memory_in_order(self):
        house = house_with([(9,), (2,)], [(5,), (2,), (1, 1), (5,), (3,), (1, 1)])
        self.assertEqual(house.finish_file(0), [0, 5])
        self.assertEqual(house.memory, [(9,), (2,), (5,), (1, 1), (3,)])

    def test_just_that_file_goes(self):
        house = house_with([], [(1,)], [(2,)], [(3,)])
        house.finish_file(1)
        self.assertEqual(house.files, {0: [(1,)], 2: [(3,)]})
        self.assertEqual(house.memory, [(2,)])


class DoneIsRefused(unittest.TestCase):
    def test_never_given(self):
        self.assertEqual(ask(done(0), file(), done(1), done(TOP)), [[-2], [0, 0], [-2], [-2]])

    def test_gone_before(self):
        self.assertEqual(ask(file([1]), gone(0), done(0)), [[0, 1], [0], [-2]])

    def test_done_before(self):
        self.assertEqual(ask(file([1]), done(0), done(0)), [[0, 1], [0, 1], [-2]])

    def test_20_sentences_are_right_and_21_too_many(self):
        full = memory(*some_sentences(18))
        self.assertEqual(ask(full, file([100], [101]), done(0))[2], [0, 20])
        self.assertEqual(ask(full, file([100], [101], [102]), done(0))[2], [-5])

    def test_only_what_is_put_there_counts(self):
        given = ask(memory(*some_sentences(19)), file([100], [0], [100], [18], [5]), done(0))
        self.assertEqual(given[2], [0, 20])

    def test_full_memory_takes_a_file_that_brings_nothing_new(self):
        given = ask(memory(*some_sentences(20)), file([0], [19]), file(), done(0), done(1))
        self.assertEqual(given[3:], [[1, 20], [0, 20]])

    def test_file_is_still_there_after_too_many(self):
        given = ask(memory(*some_sentences(20)), file([100]), done(0), gone(0), gone(0))
        self.assertEqual(given[2:], [[-5], [0], [-2]])

    def test_file_can_be_done_later(self):
        given = ask(memory(*some_sentences(20)), file([100], [101]), done(0), memory([5]), done(0))
        self.assertEqual(given[2:], [[-5], [1], [0, 3]])

    def test_memory_is_as_it_was_after_too_many(self):
        # 19 and two new ones: had one of them stayed there, the last file would be one too many.
        given = ask(memory(*some_sentences(19)), file([100], [101]), file([102]), done(0), done(1))
        self.assertEqual(given[3:], [[-5], [1, 20]])

    def test_house_is_as_it_was_after_too_many(self):
        known = [(k,) for k in range(19)]
        house = house_with(known, [(100,), (101,)])
        self.assertEqual(house.finish_file(0), [-5])
        self.assertEqual(house.memory, [(k,) for k in range(19)])
        self.assertEqual(house.files, {0: [(100,), (101,)]})

    def test_no_such_file_is_told_ahead_of_too_many(self):
        self.assertEqual(ask(memory(*some_sentences(20)), done(0))[1], [-2])


if __name__ == "__main__":
    unittest.main()
