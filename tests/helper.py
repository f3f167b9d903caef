"""What several tests need: calls in a row, answers apart, and a slow second model.

The model keeps whole strings where the program keeps nodes and their parents,
and a list of bits where the program keeps a number, so that the two share no step.
"""

import copy

from shortline.desk import answers
from shortline.modem import Modem
from shortline.sender import Sender

END, FLUSH, STEP = 0, 1, 2
PLENTY = 2000


def begin(codes=512, longest=6):
    return [0, codes, longest]


def put(row, most=PLENTY):
    return [1, most, len(row)] + list(row)


def flush(most=PLENTY):
    return [2, most]


def mode(compressed, most=PLENTY):
    return [3, compressed, most]


def reset(most=PLENTY):
    return [4, most]


def take(row, most=PLENTY):
    return [5, most, len(row)] + list(row)


def ask(*calls):
    """The answer of each call, as a list of lists."""
    line = [number for call in calls for number in call]
    given = answers(line)
    apart = []
    place = 0
    while place < len(given):
        length = given[place]
        apart.append(given[place + 1:place + 1 + length])
        place += 1 + length
    assert place == len(given)
    return apart


def came(octets):
    """What a call answers when these octets come."""
    return [len(octets)] + list(octets)


def short_sender(codes=512, longest=6):
    sender = Sender(codes, longest)
    sender.to_short()
    return sender


def begun(codes=512, longest=6):
    modem = Modem()
    modem.begin(codes, longest)
    return modem


TO_SHORT = [0, 0]


def laid(numbers, width=9):
    """The octets of these numbers, with 0 bits to the end behind FLUSH, END and the last one; STEP widens."""
    bits = []
    for number in numbers:
        bits += [number >> k & 1 for k in range(width)]
        if number == STEP:
            width += 1
        if number in (FLUSH, END):
            bits += [0] * (-len(bits) % 8)
    return octets_of(bits + [0] * (-len(bits) % 8))


def stride_pairs(stride):
    """256 bytes, from 0 on by stride: with the 0 behind them 256 pairs, no pair in two odd strides."""
    return [k * stride % 256 for k in range(256)]


def words(generator, letters, count):
    """Rows that say the same words again and again, with a stray byte between."""
    known = [[generator.randrange(letters) for k in range(generator.randrange(1, 12))] for w in range(12)]
    rows = []
    for k in range(count):
        row = []
        while generator.randrange(8):
            row += generator.choice(known)
            if generator.randrange(4) == 0:
                row.append(generator.randrange(letters))
        rows.append(row)
    return rows


def bits_of(octets):
    return [octet >> k & 1 for octet in octets for k in range(8)]


def octets_of(bits):
    """The octets that are whole; the bits of another one are left out."""
    whole = len(bits) // 8
    return [sum(bits[8 * k + j] << j for j in range(8)) for k in range(whole)]


def read_numbers(octets, width=9):
    """All numbers that lie whole in the octets, STEP and FLUSH among them."""
    bits = bits_of(octets)
    numbers = []
    place = 0
    while place + width <= len(bits):
        number = sum(bits[place + j] << j for j in range(width))
        place += width
        numbers.append(number)
        if number == STEP:
            width += 1
        if number == FLUSH:
            while place % 8:
                assert bits[place] == 0
                place += 1
    return numbers


class ModelTree:
    def __init__(self, codes, longest):
        self.codes = codes
        self.longest = longest
        self.next = 259
        self.strings = {3 + byte: (byte,) for byte in range(256)}
        self.numbers = {(byte,): 3 + byte for byte in range(256)}

    def is_parent(self, string):
        return any(string + (byte,) in self.numbers for byte in range(256))

    def add(self, string, byte):
        longer = string + (byte,)
        if longer in self.numbers or len(string) == self.longest:
            return None
        assert self.next not in self.strings
        self.strings[self.next] = longer
        self.numbers[longer] = self.next
        while True:
            self.next += 1
            if self.next == self.codes:
                self.next = 259
            found = self.strings.get(self.next)
            if found is None:
                return longer
            if not self.is_parent(found):
                assert found != longer
                del self.strings[self.next]
                del self.numbers[found]
                return longer


class ModelSender:
    """A sender that begins in short, or plain if asked: it gives all octets that are whole since the beginning."""

    def __init__(self, codes, longest, short=True):
        self.begin(codes, longest, short)
        self.bits = []

    def begin(self, codes, longest, short):
        self.tree = ModelTree(codes, longest)
        self.width = 9
        self.short = short
        self.escapes = 0
        self.string = ()
        self.added = None

    def escape(self):
        return self.escapes * 51 % 256

    def send(self, number):
        while number >= 2 ** self.width:
            self.lay(STEP)
            self.width += 1
        self.lay(number)

    def lay(self, number):
        self.bits += [number >> k & 1 for k in range(self.width)]

    def put(self, row):
        for byte in row:
            if self.short:
                self.gather(byte)
            else:
                self.bits += bits_of([byte])
                if byte == self.escape():
                    self.bits += bits_of([1])
                    self.escapes += 1
        return octets_of(self.bits)

    def gather(self, byte):
        longer = self.string + (byte,)
        if longer in self.tree.numbers and longer != self.added:
            self.string = longer
            return
        self.send(self.tree.numbers[self.string])
        self.added = self.tree.add(self.string, byte)
        self.string = (byte,)

    def close(self, sign):
        if self.string:
            self.send(self.tree.numbers[self.string])
        self.send(sign)
        self.bits += [0] * (-len(self.bits) % 8)
        self.string = ()
        self.added = None

    def flush(self):
        if self.string:
            self.close(FLUSH)
        return octets_of(self.bits)

    def mode(self, compressed):
        if compressed:
            self.bits += bits_of([self.escape(), 0])
        else:
            self.close(END)
        self.short = bool(compressed)
        return octets_of(self.bits)

    def reset(self):
        self.bits += bits_of([self.escape(), 2])
        self.begin(self.tree.codes, self.tree.longest, False)
        return octets_of(self.bits)


class Unsendable(Exception):
    """Octets that no sender sends, to the model."""


class ModelReceiver:
    """A receiver that begins plain: it gives the bytes that come out of the octets of one call."""

    def __init__(self, codes, longest):
        self.begin(codes, longest)

    def begin(self, codes, longest):
        self.tree = ModelTree(codes, longest)
        self.width = 9
        self.short = False
        self.escapes = 0
        self.last = None
        self.waiting = []
        self.before = None

    def take(self, octets):
        out = []
        for octet in octets:
            if self.short:
                self.waiting += bits_of([octet])
                out += self.read()
            elif self.last is not None:
                out += self.meaning(octet)
            elif octet == self.escapes * 51 % 256:
                self.last = octet
            else:
                out.append(octet)
        return out

    def meaning(self, octet):
        last, self.last = self.last, None
        if octet > 2:
            raise Unsendable()
        if octet == 2:
            self.begin(self.tree.codes, self.tree.longest)
        if octet == 1:
            self.escapes += 1
            return [last]
        if octet == 0:
            self.short = True
            self.before = None
        return []

    def read(self):
        out = []
        while len(self.waiting) >= self.width:
            number = sum(self.waiting[k] << k for k in range(self.width))
            self.waiting = self.waiting[self.width:]
            if number == STEP:
                if 2 ** self.width >= self.tree.codes:
                    raise Unsendable()
                self.width += 1
            elif number in (END, FLUSH):
                if any(self.waiting):
                    raise Unsendable()
                self.waiting = []
                self.before = None
                self.short = number == FLUSH
            else:
                out += self.string(number)
        return out

    def string(self, number):
        found = self.tree.strings.get(number)
        if found is None:
            raise Unsendable()
        if self.before is not None:
            self.tree.add(self.before, found[0])
            if self.tree.strings.get(number) != found:
                raise Unsendable()
        self.before = found
        return found


class ModelModem:
    """Answers one call at a time, by copies of the models; a refused call's copy is dropped."""

    def __init__(self):
        self.sender = None
        self.receiver = None
        self.gone = 0

    def answer(self, call):
        kind = call[0]
        if kind == 0:
            return self.begin(*call[1:])
        if kind == 5:
            return self.take(call[1], call[3:])
        most = call[2] if kind == 3 else call[1]
        if most > 2 ** 24 or kind == 3 and call[1] > 1:
            return [-2]
        if kind == 3 and self.sender.short == bool(call[1]) or kind == 4 and self.sender.short:
            return [-3]
        trial = copy.deepcopy(self.sender)
        octets = self.octets(trial, call)[self.gone:]
        if len(octets) > most:
            return [-5]
        self.sender = trial
        self.gone += len(octets)
        return came(octets)

    def octets(self, sender, call):
        if call[0] == 1:
            return sender.put(call[3:])
        if call[0] == 2:
            return sender.flush()
        return sender.mode(call[1]) if call[0] == 3 else sender.reset()

    def begin(self, codes, longest):
        if not (512 <= codes <= 65536 and 6 <= longest <= 250):
            return [-2]
        self.sender = ModelSender(codes, longest, False)
        self.receiver = ModelReceiver(codes, longest)
        self.gone = 0
        return [0]

    def take(self, most, row):
        if most > 2 ** 24:
            return [-2]
        trial = copy.deepcopy(self.receiver)
        try:
            out = trial.take(row)
        except Unsendable:
            return [-1]
        if len(out) > most:
            return [-5]
        self.receiver = trial
        return came(out)


def model_take(codes, longest, octets):
    """The bytes that the other end, in short, takes out of these octets."""
    return ModelReceiver(codes, longest).take(TO_SHORT + list(octets))
