"""What one object's sender gives, taken by another's receiver; and whole lists of calls beside the model."""

import random
import unittest

from helper import (
    FLUSH, TO_SHORT, ModelModem, ask, begin, begun, came, flush, laid, mode, put, read_numbers, reset, stride_pairs,
    take, words,
)

MOST = 4000


def sender_calls(generator, rows):
    """Each row put in, and between the rows flushes, modes there and back, and resets."""
    calls = []
    short = False
    for row in rows:
        calls.append(put(row, MOST))
        chance = generator.randrange(12)
        if chance < 4:
            calls.append(flush(MOST))
        elif chance < 6:
            short = not short
            calls.append(mode(1 if short else 0, MOST))
        elif chance == 6 and not short:
            calls.append(reset(MOST))
    return calls + [flush(MOST)]


def cut(generator, octets, largest):
    """Any cutting of the octets: pieces of 0 to largest."""
    pieces = []
    place = 0
    while place < len(octets):
        size = generator.randrange(largest + 1)
        pieces.append(octets[place:place + size])
        place += size
    return pieces


class TwoObjects(unittest.TestCase):
    def carry(self, codes, longest, calls, generator, largest):
        """The octets that go by each call go over; at each flush all that was put in has come out."""
        given = ask(begin(codes, longest), *calls)[1:]
        other = begun(codes, longest)
        put_in = []
        out = []
        for call, answer in zip(calls, given):
            self.assertGreaterEqual(answer[0], 0)
            if call[0] == 1:
                put_in += call[3:]
            for piece in cut(generator, answer[1:], largest):
                came_out = other.take(900000, piece)
                self.assertGreaterEqual(came_out[0], 0)
                out += came_out[1:]
            if call[0] == 1:
                self.assertEqual(out, put_in[:len(out)])
            else:
                self.assertEqual(out, put_in)
        self.assertEqual(out, put_in)
        return other

    def test_plain(self):
        generator = random.Random(1)
        row = [generator.choice((0, 1, 2, 51, 102, 153, 7)) for k in range(900)]
        other = self.carry(512, 6, [put(row), flush(), reset(), put(row), flush()], generator, 5)
        self.assertNotEqual(other.receiver.escape, 0)

    def test_short_with_few_codes_until_next_has_gone_round(self):
        for longest, letters in ((6, 3), (250, 3), (6, 256), (250, 40)):
            generator = random.Random(longest + letters)
            calls = [mode(1)]
            for row in words(generator, letters, 90):
                calls += [put(row)] + [flush()] * (generator.randrange(5) == 0)
            sender = begun(512, longest)
            added = self.count_added(sender, calls)
            self.assertGreater(added, 2 * 253)
            self.carry(512, longest, calls + [flush()], generator, 9)

    def count_added(self, modem, calls):
        """How many strings the sender adds: each moves next on."""
        added = 0
        for call in calls:
            if call[0] == 3:
                modem.mode(call[1], call[2])
            for byte in call[3:] if call[0] == 1 else []:
                node = modem.sender.tree.next_node
                modem.sender.put([byte])
                added += node != modem.sender.tree.next_node
        return added

    def test_the_trees_are_the_same_at_each_flush(self):
        for codes, longest, letters in ((512, 6, 2), (512, 250, 4), (600, 30, 200), (4096, 250, 30)):
            generator = random.Random(codes + letters)
            one = begun(codes, longest)
            other = begun(codes, longest)
            other.take(0, one.mode(1, 2)[1:])
            for row in words(generator, letters, 60):
                octets = one.put(MOST, row)[1:] + one.flush(MOST)[1:]
                self.assertEqual(other.take(MOST, octets), came(row))
                self.assertEqual(one.sender.tree.ends, other.receiver.tree.ends)
                self.assertEqual(one.sender.tree.next_node, other.receiver.tree.next_node)
                self.assertEqual(one.sender.bits, other.receiver.bits)

    def test_one_byte_again_and_again(self):
        # two strings of each length from 1 on: 2 * (1 + .. + 141) bytes are 20022
        for longest, reached in ((6, 6), (250, 142)):
            generator = random.Random(longest)
            other = self.carry(512, longest, [mode(1), put([97] * 20100, 20100), flush()], generator, 40)
            self.assertEqual(max(other.receiver.tree.lengths.values()), reached)

    def test_a_string_of_250(self):
        row = [97] * 29000
        one = begun(512, 250)
        octets = one.mode(1, 2)[1:]
        for k in range(3):
            octets += one.put(30000, row)[1:]
        octets += one.flush(10)[1:]
        self.assertIn(259 + 248, read_numbers(octets[2:]))
        self.assertEqual(begun(512, 250).take(900000, octets), came(row * 3))

    def test_more_than_nine_bits(self):
        # node 512 is the 254th pair, 253 254; each stride more is 256 nodes more
        generator = random.Random(4)
        for codes, strides, bits in ((513, (1,), 10), (1024, (1, 3), 10), (1025, (1, 3), 10), (2048, (1, 3, 5, 7), 11)):
            row = [byte for stride in strides for byte in stride_pairs(stride)] + [0]
            calls = [mode(1), put(row), flush(), put([253, 254]), flush()]
            calls += [put(row), mode(0), mode(1), put(row), flush()]
            other = self.carry(codes, 6, calls, generator, 30)
            self.assertEqual(other.receiver.bits, bits)

    def test_sixteen_bits(self):
        row = [byte for stride in range(1, 256, 2) for byte in stride_pairs(stride)]
        one = begun(65536, 250)
        octets = one.mode(1, 2)[1:] + one.put(900000, row + row)[1:] + one.mode(0, 9)[1:]
        self.assertEqual(one.sender.bits, 16)
        other = begun(65536, 250)
        out = []
        for k in range(0, len(octets), 999):
            out += other.take(900000, octets[k:k + 999])[1:]
        self.assertEqual(out, row + row)
        self.assertEqual(other.receiver.bits, 16)
        self.assertFalse(other.receiver.short)

    def test_through_modes_and_resets(self):
        for seed in range(12):
            generator = random.Random(seed)
            codes, longest = generator.choice(((512, 6), (512, 250), (515, 7), (700, 30), (2048, 12)))
            calls = sender_calls(generator, words(generator, generator.choice((2, 5, 60, 256)), 150))
            self.assertTrue({1, 2, 3, 4} <= {call[0] for call in calls})
            self.carry(codes, longest, calls, generator, generator.choice((1, 3, 20, 500)))

    def test_both_directions_at_once(self):
        generator = random.Random(77)
        one = begun(512, 9)
        two = begun(512, 9)
        for here, there in zip(words(generator, 5, 80), words(generator, 200, 80)):
            for sender, receiver, row in ((one, two, here), (two, one, there)):
                octets = []
                if generator.randrange(3) == 0:
                    octets += sender.mode(0 if sender.sender.short else 1, 5000)[1:]
                octets += sender.put(5000, row)[1:] + sender.flush(5000)[1:]
                self.assertEqual(receiver.take(5000, octets), came(row))


class InOneList(unittest.TestCase):
    """An object's own octets may come back to it: its receiver is begun as its sender is."""

    def test_a_list_of_both(self):
        calls = [begin(), put([7, 0]), take([7, 0, 1]), mode(1), take([51, 0]), put([1, 2, 1, 2]), flush()]
        given = ask(*calls)
        self.assertEqual(given[1:5], [came([7, 0, 1]), came([7, 0]), came([51, 0]), [0]])
        octets = given[5][1:] + given[6][1:]
        self.assertEqual(octets, laid([4, 5, 259, FLUSH]))
        self.assertEqual(ask(*calls, take(octets))[7], came([1, 2, 1, 2]))

    def test_a_take_as_long_as_a_list_allows(self):
        row = [7] * (30000 - 6)
        self.assertEqual(ask(begin(), take(row, 30000))[1], came(row))

    def test_a_take_of_very_many_bytes_is_refused(self):
        one = begun(512, 250)
        octets = one.mode(1, 2)[1:]
        while len(octets) < 25000:
            octets += one.put(900000, [97] * 60000)[1:]
        octets = octets[:25000]
        self.assertEqual(ask(begin(512, 250), take(octets, 900000))[1], [-5])
        self.assertEqual(ask(begin(512, 250), take(octets + laid([511] * 8), 900000))[1], [-1])


class BesideTheModel(unittest.TestCase):
    def any_most(self, generator):
        return generator.choice((0, 1, 2, 3, 20, 900, 900, 900, 900, 900, 900, 16777217, 4294967295))

    def any_call(self, generator, model, letters, line):
        """A call, mostly one that answers; vb_take takes what is on the line, or something else."""
        most = self.any_most(generator)
        chance = generator.randrange(20)
        if chance < 7:
            return put([generator.randrange(letters) for k in range(generator.randrange(40))], most)
        if chance < 9:
            return flush(most)
        if chance < 11:
            wanted = 0 if model.sender.short else 1
            return mode(generator.choice((wanted, wanted, wanted, wanted, 0, 1, 2)), most)
        if chance == 11:
            return reset(most)
        if chance == 12 and generator.randrange(4) == 0:
            return begin(generator.choice((511, 65537, 512, 515)), generator.choice((5, 6, 250, 251)))
        if chance < 14:
            return self.wrong_take(generator, line, most)
        return take(line[:generator.randrange(60)], most)

    def wrong_take(self, generator, line, most):
        row = line[:generator.randrange(9)]
        for k in range(generator.randrange(1, 4)):
            row.insert(generator.randrange(len(row) + 1), generator.choice((0, 1, 2, generator.randrange(256))))
        return take(row, most)

    def run_list(self, seed, codes, longest, letters):
        """A list that grows by what the model answers, so that what goes comes back to the same object."""
        generator = random.Random(seed)
        model = ModelModem()
        calls = [begin(codes, longest)]
        expected = [model.answer(calls[0])]
        line = []
        while len(calls) < 400:
            call = self.any_call(generator, model, letters, line)
            answer = model.answer(call)
            calls.append(call)
            expected.append(answer)
            if call[0] == 0 and answer == [0]:
                line = []
            elif call[0] in (1, 2, 3, 4) and answer[0] > 0:
                line += answer[1:]
            elif call[0] == 5 and answer[0] >= 0 and call[3:] == line[:call[2]]:
                line = line[call[2]:]
        self.assertEqual(ask(*calls), expected)
        return {(call[0], min(answer[0], 0)) for call, answer in zip(calls, expected)}

    def test_lists_of_any_calls(self):
        seen = set()
        for seed in range(10):
            codes, longest, letters = ((512, 6, 3), (512, 250, 2), (513, 30, 256), (600, 7, 20), (1100, 9, 4))[seed % 5]
            seen |= self.run_list(seed, codes, longest, letters)
        wanted = {(0, 0), (0, -2), (1, 0), (1, -2), (1, -5), (2, 0), (2, -2), (2, -5)}
        wanted |= {(3, 0), (3, -2), (3, -3), (3, -5), (4, 0), (4, -2), (4, -3), (4, -5)}
        wanted |= {(5, 0), (5, -1), (5, -2), (5, -5)}
        self.assertEqual(seen, wanted)

    def test_any_numbers_in_short(self):
        """Strings that are there, though no sender would choose them, and signs where none would send them."""
        for seed in range(8):
            generator = random.Random(seed)
            codes = generator.choice((512, 513, 520, 1030))
            model = ModelModem()
            calls = [begin(codes, generator.choice((6, 20, 250))), take(TO_SHORT)]
            expected = [model.answer(call) for call in calls]
            while len(calls) < 300:
                receiver = model.receiver
                known = list(receiver.tree.strings)
                numbers = [generator.choice(known) for k in range(generator.randrange(1, 7))]
                if generator.randrange(6) == 0:
                    numbers.append(generator.choice((2, 1, generator.randrange(259, 512))))
                call = take(laid(numbers + [FLUSH], receiver.width), generator.choice((3, 900, 900)))
                calls.append(call)
                expected.append(model.answer(call))
            self.assertEqual(ask(*calls), expected)
            self.assertTrue({-1, -5} <= {answer[0] for answer in expected})


if __name__ == "__main__":
    unittest.main()
