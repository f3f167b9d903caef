import unittest

from helper import ask, begin, begun, came, flush, put, short_sender


class FlushPlain(unittest.TestCase):
    def test_nothing_comes(self):
        self.assertEqual(ask(begin(), flush()), [[0], [0]])
        self.assertEqual(ask(begin(), put([0, 7]), flush(), flush(0))[2:], [[0], [0]])

    def test_the_escape_stays(self):
        self.assertEqual(ask(begin(), put([0]), flush(), put([0, 51]))[3], came([0, 51, 1]))

    def test_edges_of_most(self):
        self.assertEqual(ask(begin(), flush(0))[1], [0])
        self.assertEqual(ask(begin(), flush(16777216))[1], [0])
        self.assertEqual(ask(begin(), flush(16777217))[1], [-2])
        self.assertEqual(ask(begin(), flush(4294967295))[1], [-2])


class FlushShort(unittest.TestCase):
    def test_no_string_gathered(self):
        sender = short_sender()
        self.assertEqual(sender.flush(), [])
        sender.put([97])
        sender.flush()
        self.assertEqual(sender.flush(), [])

    def test_the_number_and_flush_and_bits_to_the_octets_end(self):
        # 100 and FLUSH in 9 bits each: 100 + 512 is 612, in three octets
        sender = short_sender()
        sender.put([97])
        self.assertEqual(sender.flush(), [612 % 256, 612 // 256, 0])

    def test_no_bits_where_the_octet_is_at_its_end(self):
        # seven numbers and FLUSH are 72 bits
        sender = short_sender()
        octets = sender.put([1, 2, 3, 4, 5, 6, 7]) + sender.flush()
        self.assertEqual(len(octets), 9)
        sender.put([97])
        self.assertEqual(sender.flush(), [100, 2, 0])

    def test_one_number_more_is_an_octet_begun_and_filled(self):
        sender = short_sender()
        octets = sender.put([1, 2, 3, 4, 5, 6, 7, 8]) + sender.flush()
        self.assertEqual(len(octets), 11)
        self.assertEqual(octets[10], 0)

    def test_a_node_gathered(self):
        # 1 2 1 2: 259 waits
        sender = short_sender()
        sender.put([1, 2, 1, 2])
        self.assertEqual(sender.string, 259)
        whole = 4 + (5 << 9) + (259 << 18) + (1 << 27)
        gone = [whole >> 8 * k & 255 for k in range(5)]
        self.assertEqual(sender.flush(), gone[2:])

    def test_nothing_is_added_by_it_or_by_the_byte_behind_it(self):
        sender = short_sender()
        sender.put([97])
        sender.flush()
        self.assertIsNone(sender.string)
        sender.put([98])
        self.assertEqual(sender.tree.next_node, 259)
        self.assertIsNone(sender.tree.find(100, 98))
        sender.put([99])
        self.assertEqual(sender.tree.find(101, 99), 259)

    def test_it_stays_short_with_its_tree(self):
        sender = short_sender()
        sender.put([1, 2, 9])
        sender.flush()
        sender.put([1, 2])
        self.assertTrue(sender.short)
        self.assertEqual(sender.string, 259)


class FlushShortRefusals(unittest.TestCase):
    def modem(self):
        modem = begun()
        modem.mode(1, 2)
        modem.put(2000, [97])
        return modem

    def test_as_many_octets_as_most_and_one_more(self):
        self.assertEqual(self.modem().flush(3), [3, 100, 2, 0])
        self.assertEqual(self.modem().flush(2), [-5])
        self.assertEqual(self.modem().flush(0), [-5])

    def test_minus_2(self):
        self.assertEqual(self.modem().flush(16777216), [3, 100, 2, 0])
        self.assertEqual(self.modem().flush(16777217), [-2])

    def test_a_refusal_changes_nothing(self):
        modem = self.modem()
        self.assertEqual(modem.flush(2), [-5])
        self.assertEqual(modem.flush(16777217), [-2])
        self.assertEqual(modem.flush(3), [3, 100, 2, 0])
        self.assertEqual(modem.flush(0), [0])


if __name__ == "__main__":
    unittest.main()
