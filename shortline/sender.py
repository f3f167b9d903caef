"""The sender: the bytes that are put in, and the octets that go for them."""

from shortline.lineend import ESCAPE_ITSELF, ESCAPE_RESET, ESCAPE_SHORT, LineEnd
from shortline.packer import OCTET_BITS, Packer
from shortline.tree import END, FIRST_BYTE, FLUSH, STEP


# What each call gives back is the octets that go by it.
class Sender(LineEnd):

    def __init__(self, codes, longest):
        LineEnd.__init__(self, codes, longest)
        self.packer = Packer()
        # the number of the string that is gathered, or None
        self.string = None
        # the node that the string before added, or None; the receiver adds it
        # only with the number that comes now, so this number can't be it
        self.fresh = None

    def copy(self):
        twin = Sender(self.tree.codes, self.tree.longest)
        twin.become_like(self)
        twin.packer = self.packer.copy()
        twin.string = self.string
        twin.fresh = self.fresh
        return twin

    def put(self, row):
        for byte in row:
            if self.short:
                self.put_short(byte)
            else:
                self.put_plain(byte)
        return self.packer.hand_over()

    def put_plain(self, byte):
        if byte == self.escape:
            self.push_escape(ESCAPE_ITSELF)
            self.move_escape()
        else:
            self.packer.push(byte, OCTET_BITS)

    def put_short(self, byte):
        if self.string is None:
            self.string = FIRST_BYTE + byte
            return
        node = self.tree.find(self.string, byte)
        if node is not None and node != self.fresh:
            self.string = node
            return
        self.send(self.string)
        self.fresh = self.tree.add(self.string, byte)
        self.string = FIRST_BYTE + byte

    # A plain sender has no string gathered, so it needs no branch of its own.
    def flush(self):
        if self.string is not None:
            self.send_string_and_sign(FLUSH)
        return self.packer.hand_over()

    def to_short(self):
        self.push_escape(ESCAPE_SHORT)
        self.short = True
        return self.packer.hand_over()

    def to_plain(self):
        self.send_string_and_sign(END)
        self.short = False
        return self.packer.hand_over()

    def reset(self):
        self.push_escape(ESCAPE_RESET)
        self.start_anew()
        return self.packer.hand_over()

    def push_escape(self, meaning):
        self.packer.push(self.escape, OCTET_BITS)
        self.packer.push(meaning, OCTET_BITS)

    # The string goes whole, so it adds nothing, and the next one may take any node.
    def send_string_and_sign(self, sign):
        if self.string is not None:
            self.send(self.string)
        self.send(sign)
        self.packer.fill_up()
        self.string = None
        self.fresh = None

    def send(self, number):
        while number.bit_length() > self.bits:
            self.packer.push(STEP, self.bits)
            self.bits += 1
        self.packer.push(number, self.bits)
