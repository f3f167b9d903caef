"""The desk: a list of calls goes in, the list of their answers comes back."""

from shortline.modem import Modem


# The calls' numbers, from the first to the last.
class Reader:

    def __init__(self, numbers):
        self.numbers = numbers
        self.place = 0

    def at_end(self):
        return self.place >= len(self.numbers)

    def take_number(self):
        number = self.numbers[self.place]
        self.place += 1
        return number

    def take_row(self):
        length = self.take_number()
        row = self.numbers[self.place:self.place + length]
        self.place += length
        return row


def answer_begin(modem, reader):
    codes = reader.take_number()
    longest = reader.take_number()
    return modem.begin(codes, longest)


def answer_put(modem, reader):
    most = reader.take_number()
    row = reader.take_row()
    return modem.put(most, row)


def answer_flush(modem, reader):
    most = reader.take_number()
    return modem.flush(most)


def answer_mode(modem, reader):
    compressed = reader.take_number()
    most = reader.take_number()
    return modem.mode(compressed, most)


def answer_reset(modem, reader):
    most = reader.take_number()
    return modem.reset(most)


def answer_take(modem, reader):
    most = reader.take_number()
    row = reader.take_row()
    return modem.take(most, row)


CALLS = {
    0: answer_begin,
    1: answer_put,
    2: answer_flush,
    3: answer_mode,
    4: answer_reset,
    5: answer_take,
}


def answers(calls):
    modem = Modem()
    reader = Reader(calls)
    given = []
    while not reader.at_end():
        call = reader.take_number()
        answer = CALLS[call](modem, reader)
        given.append(len(answer))
        given.extend(answer)
    return given
