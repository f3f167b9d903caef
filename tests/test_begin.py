import unittest

from helper import FLUSH, TO_SHORT, ask, begin, begun, came, flush, laid, mode, put, take


class BeginAnswers(unittest.TestCase):
    def answer(self, codes, longest):
        return ask(begin(), begin(codes, longest))[1]

    def test_the_first_call(self):
        self.assertEqual(ask(begin(512, 6)), [[0]])
        self.assertEqual(ask(begin(65536, 250)), [[0]])

    def test_edges_of_codes(self):
        self.assertEqual(self.answer(511, 6), [-2])
        self.assertEqual(self.answer(512, 6), [0])
        self.assertEqual(self.answer(65536, 6), [0])
        self.assertEqual(self.answer(65537, 6), [-2])

    def test_edges_of_longest(self):
        self.assertEqual(self.answer(512, 5), [-2])
        self.assertEqual(self.answer(512, 6), [0])
        self.assertEqual(self.answer(512, 250), [0])
        self.assertEqual(self.answer(512, 251), [-2])

    def test_far_out(self):
        self.assertEqual(self.answer(0, 6), [-2])
        self.assertEqual(self.answer(4294967295, 6), [-2])
        self.assertEqual(self.answer(512, 0), [-2])
        self.assertEqual(self.answer(512, 4294967295), [-2])
        self.assertEqual(self.answer(0, 0), [-2])


class BeginAgain(unittest.TestCase):
    def test_refused_it_leaves_the_escape_as_it_was(self):
        for refused in (begin(511, 6), begin(65537, 6), begin(512, 5), begin(512, 251)):
            given = ask(begin(), put([0]), refused, put([0, 51]))
            self.assertEqual(given, [[0], came([0, 1]), [-2], came([0, 51, 1])])

    def test_answered_it_begins_the_escape_anew(self):
        given = ask(begin(), put([0]), begin(600, 7), put([0, 51]))
        self.assertEqual(given, [[0], came([0, 1]), [0], came([0, 1, 51, 1])])

    def short_modem(self):
        modem = begun()
        modem.mode(1, 2)
        modem.put(2000, [1, 2, 1, 2, 3])
        return modem

    def test_refused_it_leaves_a_short_sender_as_it_was(self):
        one = self.short_modem()
        other = self.short_modem()
        self.assertEqual(one.begin(511, 6), [-2])
        self.assertEqual(one.put(2000, [1, 2, 3]), other.put(2000, [1, 2, 3]))
        self.assertEqual(one.flush(2000), other.flush(2000))

    def test_answered_it_begins_a_short_sender_anew(self):
        modem = self.short_modem()
        self.assertEqual(modem.begin(600, 7), [0])
        self.assertFalse(modem.sender.short)
        self.assertEqual(modem.flush(2000), [0])
        self.assertEqual(modem.put(2000, [1, 2, 0]), came([1, 2, 0, 1]))
        self.assertEqual((modem.sender.tree.codes, modem.sender.tree.longest), (600, 7))
        self.assertEqual(modem.sender.tree.next_node, 259)
        self.assertIsNone(modem.sender.tree.find(4, 2))
        self.assertEqual(modem.sender.bits, 9)

    def test_nothing_waits_behind_a_flush_when_begun_anew(self):
        self.assertEqual(ask(begin(), begin(), flush()), [[0], [0], [0]])
        given = ask(begin(), mode(1), put([1, 2, 3]), begin(), flush(), mode(0), mode(1), flush())
        self.assertEqual(given[3:], [[0], [0], [-3], came([0, 0]), [0]])


class BeginTheReceiver(unittest.TestCase):
    def test_answered_it_begins_the_escape_anew(self):
        given = ask(begin(), take([0, 1]), begin(), take([51, 0, 1]))
        self.assertEqual(given[3], came([51, 0]))

    def test_refused_it_leaves_the_escape(self):
        for refused in (begin(511, 6), begin(65537, 6), begin(512, 5), begin(512, 251)):
            given = ask(begin(), take([0, 1]), refused, take([51, 1, 0]))
            self.assertEqual(given[2:], [[-2], came([51, 0])])

    def test_behind_the_escape(self):
        self.assertEqual(ask(begin(), take([0]), begin(), take([1]))[3], came([1]))
        self.assertEqual(ask(begin(), take([0]), begin(511, 6), take([1]))[3], came([0]))

    def test_short_and_its_tree(self):
        first = take(TO_SHORT + laid([4, 5, FLUSH]))
        row = laid([259, FLUSH])
        self.assertEqual(ask(begin(), first, begin(), take([7]), take(TO_SHORT + row))[3:], [came([7]), [-1]])
        self.assertEqual(ask(begin(), first, begin(0, 0), take(row))[3], came([1, 2]))

    def test_in_the_middle_of_a_number(self):
        row = TO_SHORT + laid([258, 258, FLUSH])
        self.assertEqual(ask(begin(), take(row[:4]), begin(), take([7] + row))[3], came([7, 255, 255]))
        self.assertEqual(ask(begin(), take(row[:4]), begin(512, 5), take(row[4:]))[3], came([255]))

    def test_the_string_before(self):
        # eight numbers end at an octet's end; 266 is the last of them and 99
        first = take(TO_SHORT + laid([4, 6, 8, 10, 12, 14, 16, 18]))
        self.assertEqual(ask(begin(), first, begin(511, 6), take(laid([102, 266, FLUSH])))[3], came([99, 15, 99]))
        self.assertEqual(ask(begin(), first, begin(), take(TO_SHORT + laid([102, 6, 259, FLUSH])))[3],
                         came([99, 3, 99, 3]))

    def test_its_codes_and_its_longest(self):
        step = take(TO_SHORT + laid([2, 100, FLUSH]))
        self.assertEqual(ask(begin(512), begin(600), step)[2], came([97]))
        self.assertEqual(ask(begin(600), begin(512), step)[2], [-1])
        self.assertEqual(ask(begin(600), begin(512, 5), step)[2], came([97]))
        # 264 is the seventh 97
        grow = take(TO_SHORT + laid([100, 100] + [259 + k // 2 for k in range(10)] + [264, FLUSH]))
        self.assertEqual(ask(begin(512, 6), begin(512, 7), grow)[2], came([97] * 49))
        self.assertEqual(ask(begin(512, 7), begin(512, 6), grow)[2], [-1])

    def test_its_bits(self):
        first = take(TO_SHORT + laid([2, 100, FLUSH]))
        self.assertEqual(ask(begin(600), first, begin(600), take(TO_SHORT + laid([100, FLUSH])))[3], came([97]))
        self.assertEqual(ask(begin(600), first, begin(600, 0), take(laid([100, FLUSH], 10)))[3], came([97]))


if __name__ == "__main__":
    unittest.main()
