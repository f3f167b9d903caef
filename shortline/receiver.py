"""The receiver: the octets that are taken, and the bytes that come out of them."""

from shortline.lineend import ESCAPE_ITSELF, ESCAPE_RESET, ESCAPE_SHORT, LineEnd
from shortline.tree import END, FLUSH, STEP
from shortline.unpacker import Unpacker


# Octets that no sender sends.
class WrongOctets(Exception):
    pass


class Receiver(LineEnd):

    def __init__(self, codes, longest):
        LineEnd.__init__(self, codes, longest)
        self.unpacker = Unpacker()
        # whether the escape came last, and what it means is still to come
        self.behind_escape = False
        # the number of the string before since short began, or FLUSH; or None
        self.before = None
        # the bytes that come out by one call, and how many of them are asked for
        self.out = []
        self.most = 0

    def copy(self):
        twin = Receiver(self.tree.codes, self.tree.longest)
        twin.become_like(self)
        twin.unpacker = self.unpacker.copy()
        twin.behind_escape = self.behind_escape
        twin.before = self.before
        return twin

    # The bytes that come out of a row of octets. Where they are more than most, these
    # are more than most too, but not all: they can be very many, and nobody gets them.
    # Still the row is taken to its end, which may be one that no sender sends.
    def take(self, row, most):
        self.out = []
        self.most = most
        for octet in row:
            if self.short:
                self.take_short(octet)
            elif self.behind_escape:
                self.take_meaning(octet)
            else:
                self.take_plain(octet)
        return self.out

    def take_plain(self, octet):
        if octet == self.escape:
            self.behind_escape = True
        else:
            self.give_out([octet])

    def take_meaning(self, octet):
        self.behind_escape = False
        if octet == ESCAPE_SHORT:
            self.short = True
        elif octet == ESCAPE_ITSELF:
            self.give_out([self.escape])
            self.move_escape()
        elif octet == ESCAPE_RESET:
            self.start_anew()
        else:
            raise WrongOctets()

    # A number has more bits than an octet, so that no octet ends two of them.
    def take_short(self, octet):
        self.unpacker.push(octet)
        number = self.unpacker.pull(self.bits)
        if number is None:
            return
        if number == STEP:
            self.take_step()
        elif number == FLUSH or number == END:
            self.end_strings()
            self.short = number == FLUSH
        else:
            self.take_string(number)

    # Where all numbers below codes have room in the bits, there is nothing to step up for.
    def take_step(self):
        if (self.tree.codes - 1).bit_length() <= self.bits:
            raise WrongOctets()
        self.bits += 1

    def end_strings(self):
        if not self.unpacker.drop_rest():
            raise WrongOctets()
        self.before = None

    # The adding may take the string itself out, so it is looked for again behind it.
    def take_string(self, number):
        if not self.tree.holds(number):
            raise WrongOctets()
        string = self.tree.bytes_of(number)
        if self.before is not None:
            self.tree.add(self.before, string[0])
        if not self.tree.holds(number):
            raise WrongOctets()
        self.before = number
        self.give_out(string)

    def give_out(self, string):
        if len(self.out) <= self.most:
            self.out.extend(string)
