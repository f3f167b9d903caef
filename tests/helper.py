"""What several tests need: calls in a row, answers apart, and a slow second model.

The model keeps whole strings where the program keeps nodes and their parents,
and a list of bits where the program keeps a number, so that the two share no step.
"""

from shortline.desk import answers
from shortline.sender import Sender

END, FLUSH, STEP = 0, 1, 2
PLENTY = 2000


def begin(codes=512, longest=6):
    return [0, codes, longest]


def put(row, most=PLENTY):
    return [1, most, len(row)] + list(row)


def flush(most=PLENTY):
    return [2, most]


def ask(*calls):
    """The answer of each call, as a list of lists."""
    line = [number for call in calls for number in call]
    given = answers(line)
    apart = []
    place = 0
    while place < len(given):
        length = given[place]
        apart.append(given[place + 1:place + 1 + length])
        place += 1 + length
    assert place == len(given)
    return apart


def came(octets):
    """What a call answers when these octets come."""
    return [len(octets)] + list(octets)


def short_sender(codes=512, longest=6):
    sender = Sender(codes, longest)
    sender.short = True
    return sender


def stride_pairs(stride):
    """256 bytes, from 0 on by stride: with the 0 behind them 256 pairs, no pair in two odd strides."""
    return [k * stride % 256 for k in range(256)]


def bits_of(octets):
    return [octet >> k & 1 for octet in octets for k in range(8)]


def octets_of(bits):
    """The octets that are whole; the bits of another one are left out."""
    whole = len(bits) // 8
    return [sum(bits[8 * k + j] << j for j in range(8)) for k in range(whole)]


def read_numbers(octets, width=9):
    """All numbers that lie whole in the octets, STEP and FLUSH among them."""
    bits = bits_of(octets)
    numbers = []
    place = 0
    while place + width <= len(bits):
        number = sum(bits[place + j] << j for j in range(width))
        place += width
        numbers.append(number)
        if number == STEP:
            width += 1
        if number == FLUSH:
            while place % 8:
                assert bits[place] == 0
                place += 1
    return numbers


class ModelTree:
    def __init__(self, codes, longest):
        self.codes = codes
        self.longest = longest
        self.next = 259
        self.strings = {3 + byte: (byte,) for byte in range(256)}
        self.numbers = {(byte,): 3 + byte for byte in range(256)}

    def is_parent(self, string):
        return any(string + (byte,) in self.numbers for byte in range(256))

    def add(self, string, byte):
        longer = string + (byte,)
        if longer in self.numbers or len(string) == self.longest:
            return None
        assert self.next not in self.strings
        self.strings[self.next] = longer
        self.numbers[longer] = self.next
        while True:
            self.next += 1
            if self.next == self.codes:
                self.next = 259
            found = self.strings.get(self.next)
            if found is None:
                return longer
            if not self.is_parent(found):
                assert found != longer
                del self.strings[self.next]
                del self.numbers[found]
                return longer


class ModelSender:
    """A sender in short: put and flush give all octets that are whole since the beginning."""

    def __init__(self, codes, longest):
        self.tree = ModelTree(codes, longest)
        self.width = 9
        self.bits = []
        self.string = ()
        self.added = None

    def send(self, number):
        while number >= 2 ** self.width:
            self.lay(STEP)
            self.width += 1
        self.lay(number)

    def lay(self, number):
        self.bits += [number >> k & 1 for k in range(self.width)]

    def put(self, row):
        for byte in row:
            longer = self.string + (byte,)
            if longer in self.tree.numbers and longer != self.added:
                self.string = longer
                continue
            self.send(self.tree.numbers[self.string])
            self.added = self.tree.add(self.string, byte)
            self.string = (byte,)
        return octets_of(self.bits)

    def flush(self):
        if self.string:
            self.send(self.tree.numbers[self.string])
            self.send(FLUSH)
            self.bits += [0] * (-len(self.bits) % 8)
            self.string = ()
            self.added = None
        return octets_of(self.bits)


def model_take(codes, longest, octets):
    """The bytes that the other end, in short, takes out of these octets."""
    tree = ModelTree(codes, longest)
    before = None
    out = []
    for number in read_numbers(octets):
        if number == FLUSH:
            before = None
        elif number != STEP:
            first = tree.strings[number][0]
            if before is not None:
                tree.add(before, first)
            before = tree.strings[number]
            out.extend(before)
    return out
