"""Numbers of any many bits, laid into octets from their lowest bit on."""

OCTET_BITS = 8
OCTET_VALUES = 256


class Packer:

    def __init__(self):
        self.octets = []
        # the bits of the octet that is not whole yet, and how many they are
        self.rest = 0
        self.rest_bits = 0

    def copy(self):
        twin = Packer()
        twin.octets = list(self.octets)
        twin.rest = self.rest
        twin.rest_bits = self.rest_bits
        return twin

    def push(self, number, bits):
        self.rest += number << self.rest_bits
        self.rest_bits += bits
        while self.rest_bits >= OCTET_BITS:
            self.octets.append(self.rest % OCTET_VALUES)
            self.rest //= OCTET_VALUES
            self.rest_bits -= OCTET_BITS

    # 0 bits to the octet's end; where no octet is begun, none.
    def fill_up(self):
        if self.rest_bits > 0:
            self.push(0, OCTET_BITS - self.rest_bits)

    # The whole octets, once; what isn't whole waits.
    def hand_over(self):
        octets = self.octets
        self.octets = []
        return octets
