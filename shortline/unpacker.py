"""Octets, from their lowest bit on, read as numbers of any many bits."""

from shortline.packer import OCTET_BITS


class Unpacker:

    def __init__(self):
        # the bits that are in no number yet, and how many they are
        self.rest = 0
        self.rest_bits = 0

    def copy(self):
        twin = Unpacker()
        twin.rest = self.rest
        twin.rest_bits = self.rest_bits
        return twin

    def push(self, octet):
        self.rest += octet << self.rest_bits
        self.rest_bits += OCTET_BITS

    # The number that the next bits are, or None while they are not all there.
    def pull(self, bits):
        if self.rest_bits < bits:
            return None
        number = self.rest & ((1 << bits) - 1)
        self.rest >>= bits
        self.rest_bits -= bits
        return number

    # Whether the bits up to the octet's end were 0 alone; they are gone then.
    def drop_rest(self):
        clean = self.rest == 0
        self.rest = 0
        self.rest_bits = 0
        return clean
