"""The sender: the bytes that are put in, and the octets that go for them."""

from shortline.packer import OCTET_BITS, Packer
from shortline.tree import FIRST_BYTE, FLUSH, STEP, Tree

FIRST_BITS = 9
ESCAPE_STEP = 51
BYTE_VALUES = 256
ESCAPE_ITSELF = 1


class Sender:

    def __init__(self, codes, longest):
        self.tree = Tree(codes, longest)
        self.packer = Packer()
        self.short = False
        self.escape = 0
        self.bits = FIRST_BITS
        # the number of the string that is gathered, or None
        self.string = None
        # the node that the string before added, or None; the receiver adds it
        # only with the number that comes now, so this number can't be it
        self.fresh = None

    def copy(self):
        twin = Sender(self.tree.codes, self.tree.longest)
        twin.tree = self.tree.copy()
        twin.packer = self.packer.copy()
        twin.short = self.short
        twin.escape = self.escape
        twin.bits = self.bits
        twin.string = self.string
        twin.fresh = self.fresh
        return twin

    # The octets that go for a row of bytes.
    def put(self, row):
        for byte in row:
            if self.short:
                self.put_short(byte)
            else:
                self.put_plain(byte)
        return self.packer.hand_over()

    def put_plain(self, byte):
        self.packer.push(byte, OCTET_BITS)
        if byte == self.escape:
            self.packer.push(ESCAPE_ITSELF, OCTET_BITS)
            self.escape = (self.escape + ESCAPE_STEP) % BYTE_VALUES

    def put_short(self, byte):
        if self.string is None:
            self.string = FIRST_BYTE + byte
            return
        node = self.tree.find(self.string, byte)
        if node is not None and node != self.fresh:
            self.string = node
            return
        self.send(self.string)
        self.fresh = self.tree.add(self.string, byte)
        self.string = FIRST_BYTE + byte

    # The octets that go so that the other end has all that was put in. A plain sender
    # has no string gathered, so it needs no branch of its own.
    def flush(self):
        if self.string is not None:
            self.send(self.string)
            self.send(FLUSH)
            self.packer.fill_up()
            self.string = None
            self.fresh = None
        return self.packer.hand_over()

    def send(self, number):
        while number.bit_length() > self.bits:
            self.packer.push(STEP, self.bits)
            self.bits += 1
        self.packer.push(number, self.bits)
