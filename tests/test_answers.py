"""The interface: what is handed to `answers` and what it gives back."""

import builtins
import contextlib
import io
import sys
import unittest
from unittest import mock

from building import ask, done, file, gone, memory, one_list, rates, some_sentences
from wordcounts.office import answers

MIXED = one_list([
    memory([1, 2], [3]),
    file([1, 2], [4, 5, 6]),
    file([1000]),
    gone(7),
    rates(20, (75, 60), (100, 10)),
    file(),
    rates(0),
    done(0),
    done(0),
    gone(1),
    memory(*some_sentences(21)),
    file([8]),
    done(2),
])
MIXED_ANSWERS = [
    1, 2,
    2, 0, 5,
    1, -1,
    1, -2,
    1, -1,
    2, 1, 0,
    1, 0,
    2, 1, 3,
    1, -2,
    1, 0,
    1, -1,
    2, 2, 1,
    2, 0, 4,
]


def refuse(*args, **kwargs):
    raise AssertionError("what is handed in is changed, or something is read or imported")


class Unchanging(list):
    """A list that fails as soon as something changes it, even for a while."""

    append = extend = insert = pop = remove = clear = sort = reverse = refuse
    __setitem__ = __delitem__ = __iadd__ = __imul__ = refuse


class Unread:
    read = readline = readlines = __iter__ = __next__ = refuse


class FormOfTheLists(unittest.TestCase):
    def test_each_answer_stands_behind_its_length(self):
        self.assertEqual(answers([0, 4, 1, 7, 1, 8]), [2, 0, 2])

    def test_refusal_stands_alone_behind_1(self):
        self.assertEqual(answers([1, 0]), [1, -2])

    def test_each_call_as_it_is_told(self):
        self.assertEqual(answers([0, 0]), [2, 0, 0])
        self.assertEqual(answers([0, 0, 1, 0]), [2, 0, 0, 1, 0])
        self.assertEqual(answers([2, 3, 2, 10, 11]), [1, 1])
        self.assertEqual(answers([0, 2, 1, 5, 3, 0]), [2, 0, 1, 2, 0, 1])
        self.assertEqual(answers([4, 20, 4, 100, 10, 75, 60]), [1, 0])

    def test_several_calls_with_refusals_among_them(self):
        self.assertEqual(answers(MIXED), MIXED_ANSWERS)

    def test_any_call_may_be_the_first(self):
        given = [ask(call)[0] for call in (file([1]), gone(0), memory([1]), done(0), rates(1))]
        self.assertEqual(given, [[0, 1], [-2], [1], [-2], [0]])

    def test_30_calls(self):
        calls = [file([1] * 10, [2]), done(0)] + [file(), gone(1)] + [memory(*some_sentences(20))] * 26
        self.assertEqual(ask(*calls), [[0, 11], [0, 2], [1, 0], [0]] + [[20]] * 26)

    def test_30_longest_calls(self):
        longest = memory(*[[999] * 12] * 20)
        self.assertEqual(len(longest), 262)
        self.assertEqual(ask(*[longest] * 30), [[-1]] * 30)

    def test_refused_rows_are_gone_through_to_their_end(self):
        given = ask(file([0] * 11, [2, 1]), memory([], [0, 3]), rates(101, (5, 1), (5, 1)), file([1]))
        self.assertEqual(given, [[-1], [-1], [-1], [0, 1]])

    def test_whole_numbers_in_a_list(self):
        given = answers(list(MIXED))
        self.assertIs(type(given), list)
        self.assertEqual({type(number) for number in given}, {int})


class NothingIsChangedOrKept(unittest.TestCase):
    def test_list_is_as_it_was_afterwards(self):
        handed = list(MIXED)
        answers(handed)
        self.assertEqual(handed, MIXED)

    def test_list_is_not_changed_for_a_while_either(self):
        self.assertEqual(answers(Unchanging(MIXED)), MIXED_ANSWERS)

    def test_second_time_gives_back_the_same(self):
        handed = list(MIXED)
        first = answers(handed)
        self.assertEqual(answers(handed), first)
        self.assertIsNot(answers(handed), first)

    def test_changing_what_was_given_back_changes_nothing(self):
        answers(MIXED).clear()
        self.assertEqual(answers(MIXED), MIXED_ANSWERS)

    def test_each_time_the_house_is_new(self):
        ask(*[file([1])] * 6, memory(*some_sentences(20)), rates(0))
        self.assertEqual(ask(gone(0), file([900]), done(0)), [[-2], [0, 1], [0, 1]])

    def test_prints_reads_and_imports_nothing(self):
        out = io.StringIO()
        with contextlib.redirect_stdout(out), contextlib.redirect_stderr(out):
            with mock.patch.object(sys, "stdin", Unread()), mock.patch.object(builtins, "open", refuse), \
                    mock.patch.object(builtins, "input", refuse), mock.patch.object(builtins, "__import__", refuse):
                given = answers(MIXED)
        self.assertEqual(given, MIXED_ANSWERS)
        self.assertEqual(out.getvalue(), "")


if __name__ == "__main__":
    unittest.main()
