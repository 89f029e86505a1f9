"""A job's sentences: of which kind each is, how many words of each kind there are, what they weigh."""

from wordcounts.sentence import how_near

REPEATED = 0
PAID_NEW = 100
# Below each band, one told by 0 too: where there are no other sentences, a sentence is new.
NEAR_NONE = -1


def nearest(words, sentences):
    return max([how_near(words, others) for others in sentences], default=NEAR_NONE)


def kind_of(words, ahead, memory, bands):
    # One that the memory has is paid by its band each time, however often the job has it.
    if words in ahead and words not in memory:
        return REPEATED
    near = nearest(words, memory + ahead)
    for k in range(len(bands)):
        if bands[k][0] <= near:
            return k + 1
    return len(bands) + 1


def kinds_of(sentences, memory, bands):
    return [kind_of(sentences[k], sentences[:k], memory, bands) for k in range(len(sentences))]


def words_by_kind(sentences, memory, bands):
    counted = [0] * (len(bands) + 2)
    kinds = kinds_of(sentences, memory, bands)
    for k in range(len(sentences)):
        counted[kinds[k]] = counted[kinds[k]] + len(sentences[k])
    return counted


def weight_of(counted, again, bands):
    paid = [again] + [band[1] for band in bands] + [PAID_NEW]
    return sum([counted[k] * paid[k] for k in range(len(paid))])
