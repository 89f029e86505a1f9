"""One house: its files, its memory and its rates."""

WRONG = -1
NO_SUCH_FILE = -2
FULL = -5

MOST_WORDS = 10
GREATEST_WORD = 999
MOST_FILES = 6
MOST_FILE_SENTENCES = 8
MOST_MEMORY_SENTENCES = 20
MOST_BANDS = 4
GREATEST_RATE = 100

FIRST_AGAIN = 20
FIRST_BANDS = ((100, 10), (75, 60))


def is_right_sentence(words):
    if len(words) < 1 or len(words) > MOST_WORDS:
        return False
    return max(words) <= GREATEST_WORD


def are_right_sentences(sentences, most):
    if len(sentences) > most:
        return False
    return all([is_right_sentence(words) for words in sentences])


def is_right_band(band):
    return band[0] <= GREATEST_RATE and band[1] <= GREATEST_RATE


def are_falling(bands):
    # Only how near a sentence must be has to fall: the first bands' pay rises.
    for k in range(1, len(bands)):
        if bands[k][0] >= bands[k - 1][0]:
            return False
    return True


def are_right_bands(bands):
    if len(bands) > MOST_BANDS:
        return False
    return all([is_right_band(band) for band in bands]) and are_falling(bands)


def count_words(sentences):
    return sum([len(words) for words in sentences])


def with_unknown(memory, sentences):
    # A copy grows, so that a refusal afterwards leaves the memory as it was.
    grown = list(memory)
    for words in sentences:
        if words not in grown:
            grown.append(words)
    return grown


# Refusals are given back, not raised: a method tells a call's whole answer as one list.
class House:
    def __init__(self):
        self.files = {}
        # Kept apart from the files, so that the number of one that went is not given again.
        self.next_number = 0
        self.memory = []
        self.again = FIRST_AGAIN
        self.bands = list(FIRST_BANDS)

    def add_file(self, sentences):
        if not are_right_sentences(sentences, MOST_FILE_SENTENCES):
            return [WRONG]
        if len(self.files) >= MOST_FILES:
            return [FULL]
        number = self.next_number
        self.files[number] = sentences
        self.next_number = number + 1
        return [number, count_words(sentences)]

    def drop_file(self, number):
        if number not in self.files:
            return [NO_SUCH_FILE]
        self.files.pop(number)
        return [len(self.files)]

    def replace_memory(self, sentences):
        if not are_right_sentences(sentences, MOST_MEMORY_SENTENCES):
            return [WRONG]
        self.memory = sentences
        return [len(sentences)]

    def finish_file(self, number):
        if number not in self.files:
            return [NO_SUCH_FILE]
        grown = with_unknown(self.memory, self.files[number])
        if len(grown) > MOST_MEMORY_SENTENCES:
            return [FULL]
        self.memory = grown
        self.files.pop(number)
        return [len(self.files), len(grown)]

    def replace_rates(self, again, bands):
        if again > GREATEST_RATE or not are_right_bands(bands):
            return [WRONG]
        self.again = again
        self.bands = bands
        return [0]
