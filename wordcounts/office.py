"""The calls on one house, read from one list of whole numbers and answered in one."""

from wordcounts.house import House, answer_near

FILE = 0
GONE = 1
MEMORY = 2
DONE = 3
RATES = 4
COUNT = 5
KINDS = 6
PART = 7
NEAR = 8
SHOWS = 9


class UnknownCall(ValueError):
    pass


# Goes through the numbers by a place of its own, so that the list handed in stays as it is.
class CallReader:
    def __init__(self, numbers):
        self.numbers = numbers
        self.place = 0

    def has_more(self):
        return self.place < len(self.numbers)

    def take_number(self):
        number = self.numbers[self.place]
        self.place = self.place + 1
        return number

    def take_row(self):
        length = self.take_number()
        row = self.numbers[self.place:self.place + length]
        self.place = self.place + length
        return row


def sentences_of(row):
    sentences = []
    place = 0
    while place < len(row):
        behind = place + 1 + row[place]
        sentences.append(tuple(row[place + 1:behind]))
        place = behind
    return sentences


def bands_of(row):
    return [(row[k], row[k + 1]) for k in range(0, len(row), 2)]


def answer_call(house, reader):
    call = reader.take_number()
    if call == FILE:
        return house.add_file(sentences_of(reader.take_row()))
    if call == GONE:
        return house.drop_file(reader.take_number())
    if call == MEMORY:
        return house.replace_memory(sentences_of(reader.take_row()))
    if call == DONE:
        return house.finish_file(reader.take_number())
    if call == RATES:
        again = reader.take_number()
        return house.replace_rates(again, bands_of(reader.take_row()))
    if call == COUNT:
        return house.count_job(reader.take_row())
    if call == KINDS:
        return house.tell_kinds(reader.take_row())
    if call == PART:
        return house.part_files(reader.take_number())
    if call == NEAR:
        pair = sentences_of(reader.take_row())
        return answer_near(pair[0], pair[1])
    if call == SHOWS:
        return house.show()
    raise UnknownCall(f"call {call} is not answered")


def answers(calls):
    house = House()
    reader = CallReader(calls)
    given = []
    while reader.has_more():
        answered = answer_call(house, reader)
        given.append(len(answered))
        given.extend(answered)
    return given
