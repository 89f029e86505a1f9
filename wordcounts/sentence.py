"""Sentences, each a tuple of words: which are right, and how near two are."""

MOST_WORDS = 10
GREATEST_WORD = 999


def is_right_sentence(words):
    if len(words) < 1 or len(words) > MOST_WORDS:
        return False
    return max(words) <= GREATEST_WORD


def are_right_sentences(sentences, most):
    if len(sentences) > most:
        return False
    return all([is_right_sentence(words) for words in sentences])


def count_words(sentences):
    return sum([len(words) for words in sentences])


def fewest_changes(words, others):
    # One row for each beginning of words: what making it each beginning of others takes.
    above = list(range(len(others) + 1))
    for k in range(len(words)):
        row = [k + 1]
        for i in range(len(others)):
            exchanged = above[i] if words[k] == others[i] else above[i] + 1
            row.append(min(exchanged, above[i + 1] + 1, row[i] + 1))
        above = row
    return above[len(others)]


def how_near(words, others):
    longer = max(len(words), len(others))
    return 100 * (longer - fewest_changes(words, others)) // longer
