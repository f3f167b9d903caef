import unittest

from helper import ask, begin, came, flush, put, short_sender
from shortline.modem import Modem


class BeginAnswers(unittest.TestCase):
    def answer(self, codes, longest):
        return ask(begin(), begin(codes, longest))[1]

    def test_the_first_call(self):
        self.assertEqual(ask(begin(512, 6)), [[0]])
        self.assertEqual(ask(begin(65536, 250)), [[0]])

    def test_edges_of_codes(self):
        self.assertEqual(self.answer(511, 6), [-2])
        self.assertEqual(self.answer(512, 6), [0])
        self.assertEqual(self.answer(65536, 6), [0])
        self.assertEqual(self.answer(65537, 6), [-2])

    def test_edges_of_longest(self):
        self.assertEqual(self.answer(512, 5), [-2])
        self.assertEqual(self.answer(512, 6), [0])
        self.assertEqual(self.answer(512, 250), [0])
        self.assertEqual(self.answer(512, 251), [-2])

    def test_far_out(self):
        self.assertEqual(self.answer(0, 6), [-2])
        self.assertEqual(self.answer(4294967295, 6), [-2])
        self.assertEqual(self.answer(512, 0), [-2])
        self.assertEqual(self.answer(512, 4294967295), [-2])
        self.assertEqual(self.answer(0, 0), [-2])


class BeginAgain(unittest.TestCase):
    def test_refused_it_leaves_the_escape_as_it_was(self):
        for refused in (begin(511, 6), begin(65537, 6), begin(512, 5), begin(512, 251)):
            given = ask(begin(), put([0]), refused, put([0, 51]))
            self.assertEqual(given, [[0], came([0, 1]), [-2], came([0, 51, 1])])

    def test_answered_it_begins_the_escape_anew(self):
        given = ask(begin(), put([0]), begin(600, 7), put([0, 51]))
        self.assertEqual(given, [[0], came([0, 1]), [0], came([0, 1, 51, 1])])

    def short_modem(self):
        modem = Modem()
        modem.begin(512, 6)
        modem.sender = short_sender()
        modem.put(2000, [1, 2, 1, 2, 3])
        return modem

    def test_refused_it_leaves_a_short_sender_as_it_was(self):
        one = self.short_modem()
        other = self.short_modem()
        self.assertEqual(one.begin(511, 6), [-2])
        self.assertEqual(one.put(2000, [1, 2, 3]), other.put(2000, [1, 2, 3]))
        self.assertEqual(one.flush(2000), other.flush(2000))

    def test_answered_it_begins_a_short_sender_anew(self):
        modem = self.short_modem()
        self.assertEqual(modem.begin(600, 7), [0])
        self.assertFalse(modem.sender.short)
        self.assertEqual(modem.flush(2000), [0])
        self.assertEqual(modem.put(2000, [1, 2, 0]), came([1, 2, 0, 1]))
        self.assertEqual((modem.sender.tree.codes, modem.sender.tree.longest), (600, 7))
        self.assertEqual(modem.sender.tree.next_node, 259)
        self.assertIsNone(modem.sender.tree.find(4, 2))
        self.assertEqual(modem.sender.bits, 9)

    def test_nothing_waits_behind_a_flush_when_begun_anew(self):
        self.assertEqual(ask(begin(), begin(), flush()), [[0], [0], [0]])


if __name__ == "__main__":
    unittest.main()
