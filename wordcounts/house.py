"""One house: its files, its memory and its rates."""

from wordcounts.dealing import best_deal, loads_of
from wordcounts.jobs import kinds_of, weight_of, words_by_kind
from wordcounts.sentence import are_right_sentences, count_words, how_near, is_right_sentence

WRONG = -1
NO_SUCH_FILE = -2
FULL = -5

MOST_FILES = 6
MOST_FILE_SENTENCES = 8
MOST_MEMORY_SENTENCES = 20
MOST_BANDS = 4
GREATEST_RATE = 100
MOST_HANDS = 4

FIRST_AGAIN = 20
FIRST_BANDS = ((100, 10), (75, 60))


def is_right_band(band):
    return band[0] <= GREATEST_RATE and band[1] <= GREATEST_RATE


def are_falling(bands):
    # Only how near a sentence must be has to fall: the first bands' pay rises.
    for k in range(1, len(bands)):
        if bands[k][0] >= bands[k - 1][0]:
            return False
    return True


def are_right_bands(bands):
    if len(bands) > MOST_BANDS:
        return False
    return all([is_right_band(band) for band in bands]) and are_falling(bands)


def with_unknown(memory, sentences):
    # A copy grows, so that a refusal afterwards leaves the memory as it was.
    grown = list(memory)
    for words in sentences:
        if words not in grown:
            grown.append(words)
    return grown


def answer_near(words, others):
    if not is_right_sentence(words) or not is_right_sentence(others):
        return [WRONG]
    return [how_near(words, others)]


# Refusals are given back, not raised: a method tells a call's whole answer as one list.
class House:
    def __init__(self):
        self.files = {}
        # Kept apart from the files, so that the number of one that went is not given again.
        self.next_number = 0
        self.memory = []
        self.again = FIRST_AGAIN
        self.bands = list(FIRST_BANDS)

    def add_file(self, sentences):
        if not are_right_sentences(sentences, MOST_FILE_SENTENCES):
            return [WRONG]
        if len(self.files) >= MOST_FILES:
            return [FULL]
        number = self.next_number
        self.files[number] = sentences
        self.next_number = number + 1
        return [number, count_words(sentences)]

    def drop_file(self, number):
        if number not in self.files:
            return [NO_SUCH_FILE]
        self.files.pop(number)
        return [len(self.files)]

    def replace_memory(self, sentences):
        if not are_right_sentences(sentences, MOST_MEMORY_SENTENCES):
            return [WRONG]
        self.memory = sentences
        return [len(sentences)]

    def finish_file(self, number):
        if number not in self.files:
            return [NO_SUCH_FILE]
        grown = with_unknown(self.memory, self.files[number])
        if len(grown) > MOST_MEMORY_SENTENCES:
            return [FULL]
        self.memory = grown
        self.files.pop(number)
        return [len(self.files), len(grown)]

    def replace_rates(self, again, bands):
        if again > GREATEST_RATE or not are_right_bands(bands):
            return [WRONG]
        self.again = again
        self.bands = bands
        return [0]

    def has_job(self, numbers):
        if len(set(numbers)) != len(numbers):
            return False
        return all([number in self.files for number in numbers])

    def job_of(self, numbers):
        chosen = numbers if len(numbers) > 0 else sorted(self.files)
        sentences = []
        for number in chosen:
            sentences.extend(self.files[number])
        return sentences

    def count_by_kind(self, sentences):
        return words_by_kind(sentences, self.memory, self.bands)

    def weigh(self, sentences):
        return weight_of(self.count_by_kind(sentences), self.again, self.bands)

    def count_job(self, numbers):
        if not self.has_job(numbers):
            return [NO_SUCH_FILE]
        counted = self.count_by_kind(self.job_of(numbers))
        return [weight_of(counted, self.again, self.bands)] + counted

    def tell_kinds(self, numbers):
        if not self.has_job(numbers):
            return [NO_SUCH_FILE]
        kinds = kinds_of(self.job_of(numbers), self.memory, self.bands)
        return [len(kinds)] + kinds

    def part_files(self, hands):
        if hands < 1 or hands > MOST_HANDS:
            return [WRONG]
        weights = [self.weigh(self.files[number]) for number in sorted(self.files)]
        deal = best_deal(weights, hands)
        loads = loads_of(deal, weights, hands)
        return [max(loads), min(loads)] + list(deal)

    def show(self):
        shown = [len(self.files), len(self.memory)]
        for number in sorted(self.files):
            shown.extend([number, len(self.files[number])])
        return shown
