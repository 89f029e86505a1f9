"""The interface: what is handed to `answers` and what it gives back."""

import builtins
import contextlib
import io
import sys
import unittest
from unittest import mock

from building import (
    ask, count, done, file, gone, kinds, last, memory, near, one_list, part, rates, shows, some_sentences,
)
from wordcounts.office import answers

# Each call with what it is answered, all about one house, refusals among them.
MIXED_CALLS = [
    (shows(), [0, 0]),
    (memory([1, 2, 3, 4], [3]), [2]),
    (file([1, 2, 3, 9], [4, 5, 6]), [0, 7]),
    (file([1000]), [-1]),
    (file([4, 5, 6], [1, 2, 3, 4], [3], [3]), [1, 9]),
    (gone(7), [-2]),
    (kinds(), [6, 2, 3, 0, 1, 1, 1]),
    (kinds(1, 0), [6, 3, 1, 1, 1, 2, 0]),
    (count(0, 0), [-2]),
    (count(), [4 * 60 + 3 * 100 + 3 * 20 + 6 * 10, 3, 6, 4, 3]),
    (part(2), [540, 360, 0, 1]),
    (part(5), [-1]),
    (near([1, 2, 3], [1, 3]), [66]),
    (near([], [1]), [-1]),
    (rates(20, (75, 60), (100, 10)), [-1]),
    (rates(0, (50, 30)), [0]),
    (count(1), [3 * 100 + 6 * 30, 0, 6, 3]),
    (file(), [2, 0]),
    (part(3), [480, 0, 0, 1, 0]),
    (done(0), [2, 4]),
    (done(0), [-2]),
    (shows(), [2, 4, 1, 4, 2, 0]),
    (kinds(1), [4, 1, 1, 1, 1]),
    (gone(1), [1]),
    (memory(*some_sentences(21)), [-1]),
    (file([8]), [3, 1]),
    (done(3), [1, 5]),
    (count(3), [-2]),
    (shows(), [1, 5, 2, 0]),
    (kinds(), [0]),
]
MIXED = one_list([call for call, answer in MIXED_CALLS])
MIXED_ANSWERS = one_list([[len(answer)] + answer for call, answer in MIXED_CALLS])

# Its memory has 19 sentences, so that it has room for one of the two that the first file would bring.
HOUSE = [
    memory([1, 2, 3, 4], *some_sentences(18, 100)),
    file([1, 2, 3, 9], [4, 5], [4, 5]),
    file([1, 2, 3, 4], [6, 7]),
    file(),
    gone(2),
    rates(33, (90, 7), (60, 41)),
]
LOOKED_AT = [shows(), kinds(), count(), kinds(1, 0), count(1), part(2)]
REFUSED = [
    (file([1], []), -1),
    (file([1] * 11), -1),
    (file([1000]), -1),
    (file(*some_sentences(9)), -1),
    (gone(2), -2),
    (gone(9), -2),
    (memory([5], []), -1),
    (memory([5], [1000]), -1),
    (memory(*some_sentences(21)), -1),
    (done(2), -2),
    (done(0), -5),
    (rates(101, (50, 50)), -1),
    (rates(5, (50, 101)), -1),
    (rates(5, (50, 5), (50, 4)), -1),
    (rates(5, *[(50 - k, 5) for k in range(5)]), -1),
    (count(2), -2),
    (count(0, 1, 0), -2),
    (kinds(2), -2),
    (kinds(0, 1, 0), -2),
    (part(0), -1),
    (part(5), -1),
    (near([], [1]), -1),
    (near([1], [1000]), -1),
]
TELLING = [
    count(), count(1, 0), kinds(), kinds(1, 0), part(1), part(4), shows(),
    near([1, 2, 3, 4], [5, 6]), near([7], [7]),
]


def refuse(*args, **kwargs):
    raise AssertionError("what is handed in is changed, or something is read or imported")


class Unchanging(list):
    """A list that fails as soon as something changes it, even for a while."""

    append = extend = insert = pop = remove = clear = sort = reverse = refuse
    __setitem__ = __delitem__ = __iadd__ = __imul__ = refuse


class Unread:
    read = readline = readlines = __iter__ = __next__ = refuse


class FormOfTheLists(unittest.TestCase):
    def test_each_answer_stands_behind_its_length(self):
        self.assertEqual(answers([0, 4, 1, 7, 1, 8]), [2, 0, 2])

    def test_refusal_stands_alone_behind_1(self):
        self.assertEqual(answers([1, 0]), [1, -2])

    def test_each_call_as_it_is_told(self):
        self.assertEqual(answers([0, 0]), [2, 0, 0])
        self.assertEqual(answers([0, 0, 1, 0]), [2, 0, 0, 1, 0])
        self.assertEqual(answers([2, 3, 2, 10, 11]), [1, 1])
        self.assertEqual(answers([0, 2, 1, 5, 3, 0]), [2, 0, 1, 2, 0, 1])
        self.assertEqual(answers([4, 20, 4, 100, 10, 75, 60]), [1, 0])
        self.assertEqual(answers([5, 0]), [5, 0, 0, 0, 0, 0])
        self.assertEqual(answers([0, 2, 1, 5, 5, 1, 0]), [2, 0, 1, 5, 100, 0, 0, 0, 1])
        self.assertEqual(answers([6, 0]), [1, 0])
        self.assertEqual(answers([0, 2, 1, 5, 6, 1, 0]), [2, 0, 1, 2, 1, 3])
        self.assertEqual(answers([0, 2, 1, 5, 7, 1]), [2, 0, 1, 3, 100, 100, 0])
        self.assertEqual(answers([8, 5, 1, 7, 2, 7, 8]), [1, 50])
        self.assertEqual(answers([0, 2, 1, 5, 9]), [2, 0, 1, 4, 1, 0, 0, 1])

    def test_counts_that_are_told_and_no_others(self):
        files = [file([1], [2]), file([3])]
        # Of count one number for each band, of part one for each file.
        for bands in ([], [(9, 9)], [(9, 9), (8, 8), (7, 7), (6, 6)]):
            self.assertEqual(len(last(*files, rates(5, *bands), count())), len(bands) + 3)
        for hands in (1, 2, 3, 4):
            self.assertEqual(len(last(*files, part(hands))), 4)

    def test_all_ten_calls_with_refusals_among_them(self):
        self.assertEqual(len(MIXED_CALLS), 30)
        self.assertEqual({call[0] for call, answer in MIXED_CALLS}, set(range(10)))
        self.assertEqual(ask(*[call for call, answer in MIXED_CALLS]), [answer for call, answer in MIXED_CALLS])
        self.assertEqual(answers(MIXED), MIXED_ANSWERS)

    def test_any_call_may_be_the_first(self):
        first = [
            (file([1]), [0, 1]), (gone(0), [-2]), (memory([1]), [1]), (done(0), [-2]), (rates(1), [0]),
            (count(), [0, 0, 0, 0, 0]), (kinds(), [0]), (part(3), [0, 0]), (near([1], [1]), [100]), (shows(), [0, 0]),
        ]
        for call, answer in first:
            with self.subTest(call=call):
                self.assertEqual(ask(call), [answer])
                self.assertEqual(ask(call, shows())[0], answer)

    def test_30_calls(self):
        calls = [file([1] * 10, [2]), done(0)] + [file(), gone(1)] + [memory(*some_sentences(20))] * 26
        self.assertEqual(ask(*calls), [[0, 11], [0, 2], [1, 0], [0]] + [[20]] * 26)

    def test_30_longest_calls(self):
        longest = memory(*[[999] * 12] * 20)
        self.assertEqual(len(longest), 262)
        self.assertEqual(ask(*[longest] * 30), [[-1]] * 30)

    def test_30_calls_on_the_greatest_house(self):
        # Words differ in each sentence, so that no two are quickly told to be alike.
        def long_ones(how_many, first):
            return [[(first + 7 * k + 13 * j * (k + 1)) % 1000 for j in range(10)] for k in range(how_many)]

        calls = [memory(*long_ones(20, 0))] + [file(*long_ones(8, 150 * k + 77)) for k in range(6)]
        given = ask(*calls, *[part(4)] * 6, *[count()] * 8, *[kinds()] * 8, shows())
        self.assertEqual(len(given), 30)
        self.assertEqual([len(answer) for answer in given[7:]], [8] * 6 + [5] * 8 + [49] * 8 + [14])
        self.assertEqual(sum(given[13][1:]), 480)

    def test_refused_rows_are_gone_through_to_their_end(self):
        given = ask(file([0] * 11, [2, 1]), memory([], [0, 3]), rates(101, (5, 1), (5, 1)), file([1]))
        self.assertEqual(given, [[-1], [-1], [-1], [0, 1]])

    def test_whole_numbers_in_a_list(self):
        given = answers(list(MIXED))
        self.assertIs(type(given), list)
        self.assertEqual({type(number) for number in given}, {int})


class HouseStaysAsItIs(unittest.TestCase):
    def assert_unchanged(self, call):
        with self.subTest(call=call):
            behind = file([50], [51])
            looked = ask(*HOUSE, *LOOKED_AT, behind, *LOOKED_AT)
            given = ask(*HOUSE, call, *LOOKED_AT, behind, *LOOKED_AT)
            place = len(HOUSE)
            self.assertEqual(given[:place], looked[:place])
            self.assertEqual(given[place + 1:], looked[place:])

    def test_house_is_as_told(self):
        given = ask(*HOUSE, *LOOKED_AT)
        self.assertEqual(given[6:], [
            [2, 19, 0, 3, 1, 2],
            [5, 2, 3, 0, 1, 3],
            [4 * 41 + 2 * 100 + 2 * 33 + 4 * 7 + 2 * 100, 2, 4, 4, 4],
            [5, 1, 3, 2, 3, 0],
            [228, 0, 4, 0, 2],
            [430, 228, 0, 1],
        ])

    def test_after_a_refusal(self):
        for call, refusal in REFUSED:
            with self.subTest(call=call):
                given = ask(*HOUSE, *LOOKED_AT, call, *LOOKED_AT, file([5]))
                place = len(HOUSE)
                self.assertEqual(given[place + 6], [refusal])
                self.assertEqual(given[place + 7:place + 13], given[place:place + 6])
                self.assertEqual(given[place + 13], [3, 1])

    def test_after_a_file_too_many(self):
        given = ask(*HOUSE, *[file([7, 7])] * 4, *LOOKED_AT, file([1]), *LOOKED_AT)
        self.assertEqual(given[16], [-5])
        self.assertEqual(given[17:], given[10:16])

    def test_calls_that_only_tell_change_nothing(self):
        for call in TELLING:
            self.assert_unchanged(call)

    def test_told_twice_tell_the_same(self):
        for call in TELLING:
            with self.subTest(call=call):
                given = ask(*HOUSE, call, call)
                self.assertEqual(given[-1], given[-2])

    def test_what_rates_keeps_is_told_by_count(self):
        given = ask(file([1, 2], [1, 2]), count(), rates(45, (90, 5)), count(), rates(101), count(), rates(0), count())
        self.assertEqual(given[1::2], [[240, 2, 0, 0, 2], [290, 2, 0, 2], [290, 2, 0, 2], [200, 2, 2]])


class NothingIsChangedOrKept(unittest.TestCase):
    def test_list_is_as_it_was_afterwards(self):
        handed = list(MIXED)
        answers(handed)
        self.assertEqual(handed, MIXED)

    def test_list_is_not_changed_for_a_while_either(self):
        self.assertEqual(answers(Unchanging(MIXED)), MIXED_ANSWERS)

    def test_second_time_gives_back_the_same(self):
        handed = list(MIXED)
        first = answers(handed)
        self.assertEqual(answers(handed), first)
        self.assertIsNot(answers(handed), first)

    def test_changing_what_was_given_back_changes_nothing(self):
        answers(MIXED).clear()
        self.assertEqual(answers(MIXED), MIXED_ANSWERS)

    def test_each_time_the_house_is_new(self):
        ask(*[file([1])] * 6, memory(*some_sentences(20)), rates(0))
        self.assertEqual(ask(gone(0), file([900]), done(0)), [[-2], [0, 1], [0, 1]])
        self.assertEqual(ask(shows(), file([0], [0]), count()), [[0, 0], [0, 2], [120, 1, 0, 0, 1]])

    def test_prints_reads_and_imports_nothing(self):
        out = io.StringIO()
        with contextlib.redirect_stdout(out), contextlib.redirect_stderr(out):
            with mock.patch.object(sys, "stdin", Unread()), mock.patch.object(builtins, "open", refuse), \
                    mock.patch.object(builtins, "input", refuse), mock.patch.object(builtins, "__import__", refuse):
                given = answers(MIXED)
        self.assertEqual(given, MIXED_ANSWERS)
        self.assertEqual(out.getvalue(), "")


if __name__ == "__main__":
    unittest.main()
