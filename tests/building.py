"""Builds the list that `answers` takes, and parts the one that it gives back."""

from wordcounts.office import answers


def row(numbers):
    return [len(numbers)] + list(numbers)


def told(sentences):
    numbers = []
    for words in sentences:
        numbers.extend(row(words))
    return numbers


def file(*sentences):
    return [0] + row(told(sentences))


def gone(number):
    return [1, number]


def memory(*sentences):
    return [2] + row(told(sentences))


def done(number):
    return [3, number]


def rates(again, *bands):
    numbers = []
    for band in bands:
        numbers.extend(band)
    return [4, again] + row(numbers)


def count(*numbers):
    return [5] + row(numbers)


def kinds(*numbers):
    return [6] + row(numbers)


def part(hands):
    return [7, hands]


def near(first, second):
    return [8] + row(told([first, second]))


def shows():
    return [9]


def one_list(calls):
    numbers = []
    for call in calls:
        numbers.extend(call)
    return numbers


def parted(given):
    parts = []
    place = 0
    while place < len(given):
        behind = place + 1 + given[place]
        parts.append(given[place + 1:behind])
        place = behind
    return parts


def ask(*calls):
    return parted(answers(one_list(calls)))


def some_sentences(how_many, first=0):
    """Sentences of one word each, no two the same."""
    return [[first + k] for k in range(how_many)]


def last(*calls):
    """What the last of the calls is answered."""
    return ask(*calls)[-1]
