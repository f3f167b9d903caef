import unittest

from helper import ask, begin, came, flush, laid, mode, put, reset, take

ESCAPE_WAY = [k * 51 % 256 for k in range(257)]


class PlainOctets(unittest.TestCase):
    def test_they_come_out_as_they_are(self):
        row = [1, 2, 255, 51, 97, 97, 97]
        self.assertEqual(ask(begin(), take(row))[1], came(row))

    def test_none(self):
        self.assertEqual(ask(begin(), take([]), take([], most=0)), [[0], [0], [0]])

    def test_every_octet_but_the_escape(self):
        self.assertEqual(ask(begin(), take(list(range(1, 256))))[1], came(list(range(1, 256))))


class BehindTheEscape(unittest.TestCase):
    def test_1_is_the_escape_itself(self):
        self.assertEqual(ask(begin(), take([0, 1]))[1], came([0]))
        self.assertEqual(ask(begin(), take([7, 0, 1, 7]))[1], came([7, 0, 7]))

    def test_1_moves_the_escape_on(self):
        self.assertEqual(ask(begin(), take([0, 1, 0, 0, 51, 1, 51]))[1], came([0, 0, 0, 51, 51]))

    def test_the_escape_goes_its_way_by_51_modulo_256(self):
        self.assertEqual(ESCAPE_WAY[:8], [0, 51, 102, 153, 204, 255, 50, 101])
        self.assertEqual(ESCAPE_WAY[256], 0)
        row = [octet for byte in ESCAPE_WAY for octet in (byte, 1)]
        self.assertEqual(ask(begin(), take(row))[1], came(ESCAPE_WAY))

    def test_0_is_short(self):
        self.assertEqual(ask(begin(), take([7, 0, 0] + laid([100, 1])))[1], came([7, 97]))
        self.assertEqual(ask(begin(), take([0, 1, 51, 0] + laid([100, 1])))[1], came([0, 97]))

    def test_0_does_not_move_the_escape(self):
        end = laid([0])
        given = ask(begin(), take([0, 1, 51, 0] + end + [51, 1, 102, 0] + end + [9, 102, 1]))
        self.assertEqual(given[1], came([0, 51, 9, 102]))

    def test_2_is_the_beginning_of_the_escape(self):
        self.assertEqual(ask(begin(), take([0, 2, 0, 1]))[1], came([0]))
        self.assertEqual(ask(begin(), take([0, 1, 51, 1, 102, 2, 102, 51, 0, 1]))[1], came([0, 51, 102, 51, 0]))

    def test_2_is_the_beginning_of_the_tree(self):
        first = [0, 0] + laid([4, 5, 12, 0])
        self.assertEqual(ask(begin(), take(first + [0, 0] + laid([259, 1])))[1], came([1, 2, 9, 1, 2]))
        self.assertEqual(ask(begin(), take(first + [0, 2, 0, 0] + laid([259, 1])))[1], [-1])
        second = [0, 0] + laid([6, 7, 259, 1])
        self.assertEqual(ask(begin(), take(first + [0, 2] + second))[1], came([1, 2, 9, 3, 4, 3, 4]))

    def test_2_is_the_beginning_of_the_bits(self):
        first = [0, 0] + laid([2, 0])
        self.assertEqual(ask(begin(600), take(first + [0, 0] + laid([100, 1], 10)))[1], came([97]))
        self.assertEqual(ask(begin(600), take(first + [0, 2, 0, 0] + laid([100, 1])))[1], came([97]))

    def test_2_leaves_codes_and_longest(self):
        step = [0, 0] + laid([2, 100, 1])
        self.assertEqual(ask(begin(512), take([0, 2] + step))[1], [-1])
        self.assertEqual(ask(begin(513), take([0, 2] + step))[1], came([97]))
        # 259 to 263 are 2 to 6 times 97: 264 would be the seventh
        grow = [100, 100, 259, 259, 260, 260, 261, 261, 262, 262, 263, 263]
        out = [97] * (2 * (1 + 2 + 3 + 4 + 5 + 6))
        for longest, answer in ((6, [-1]), (7, came(out + [97] * 7))):
            given = ask(begin(512, longest), take([0, 2, 0, 0] + laid(grow + [264, 1])))
            self.assertEqual(given[1], answer)

    def test_2_leaves_the_sender(self):
        given = ask(begin(), put([0]), take([0, 2]), put([0, 51]), mode(1), put([97]), take([0, 2]), flush(), reset())
        self.assertEqual(given[3], came([0, 51, 1]))
        self.assertEqual(given[7:], [came([100, 2, 0]), [-3]])

    def test_another_octet(self):
        for octet in (3, 4, 51, 128, 255):
            self.assertEqual(ask(begin(), take([0, octet]))[1], [-1])
            self.assertEqual(ask(begin(), take([7, 0, 1, 51, octet, 7]))[1], [-1])

    def test_the_escape_twice(self):
        self.assertEqual(ask(begin(), take([0, 1, 51, 51]))[1], [-1])
        # at the beginning the escape is 0, so that twice is short
        self.assertEqual(ask(begin(), take([0, 0]), take(laid([100, 1])))[1:], [[0], came([97])])


class OverCalls(unittest.TestCase):
    def test_the_escape_last_and_its_meaning_in_the_next(self):
        self.assertEqual(ask(begin(), take([7, 0]), take([1, 7]))[1:], [came([7]), came([0, 7])])
        self.assertEqual(ask(begin(), take([0]), take([0]), take(laid([100, 1])))[1:], [[0], [0], came([97])])
        given = ask(begin(), take([0, 1, 51]), take([2]), take([51, 0, 1]))
        self.assertEqual(given[1:], [came([0]), [0], came([51, 0])])
        self.assertEqual(ask(begin(), take([0]), take([3]))[1:], [[0], [-1]])

    def test_an_empty_call_between(self):
        self.assertEqual(ask(begin(), take([0]), take([]), take([1]))[1:], [[0], [0], came([0])])

    def test_the_escape_is_kept(self):
        given = ask(begin(), take([0, 1]), take([0, 51]), take([1, 102]), take([1, 102]))
        self.assertEqual(given[1:], [came([0]), came([0]), came([51]), came([102, 102])])

    def test_octet_by_octet(self):
        row = [5, 0, 1, 51, 1, 0, 102, 0] + laid([4, 5, 259, 1, 100, 0]) + [102, 1, 7, 153, 2, 0, 1]
        whole = ask(begin(), take(row))[1]
        self.assertEqual(whole, came([5, 0, 51, 0, 1, 2, 1, 2, 97, 102, 7, 0]))
        pieces = ask(begin(), *[take([octet]) for octet in row])[1:]
        self.assertEqual([byte for piece in pieces for byte in piece[1:]], whole[1:])

    def test_the_sender_and_the_receiver_have_each_their_own_escape(self):
        given = ask(begin(), put([0, 51]), take([0, 1]), put([102]), take([51, 1]), mode(1), take([102, 1]))
        self.assertEqual(given[3:], [came([102, 1]), came([51]), came([153, 0]), came([102])])


class Refusals(unittest.TestCase):
    def test_edges_of_most(self):
        self.assertEqual(ask(begin(), take([7], most=16777216))[1], came([7]))
        self.assertEqual(ask(begin(), take([7], most=16777217))[1], [-2])
        self.assertEqual(ask(begin(), take([], most=16777217))[1], [-2])
        self.assertEqual(ask(begin(), take([7], most=4294967295))[1], [-2])

    def test_as_many_bytes_as_most_and_one_more(self):
        self.assertEqual(ask(begin(), take([7, 8, 9], most=3))[1], came([7, 8, 9]))
        self.assertEqual(ask(begin(), take([7, 8, 9], most=2))[1], [-5])
        self.assertEqual(ask(begin(), take([7, 8, 9], most=0))[1], [-5])
        self.assertEqual(ask(begin(), take([7] * 3000, most=1))[1], [-5])

    def test_bytes_are_counted_not_octets(self):
        self.assertEqual(ask(begin(), take([0, 1, 51, 1, 102], most=2))[1], came([0, 51]))
        self.assertEqual(ask(begin(), take([0, 1, 51, 1, 102], most=1))[1], [-5])
        self.assertEqual(ask(begin(), take([0, 2, 0, 0, 0], most=0))[1], [0])

    def test_minus_2_goes_ahead_of_minus_1(self):
        self.assertEqual(ask(begin(), take([0, 3], most=16777217))[1], [-2])

    def test_minus_1_goes_ahead_of_minus_5(self):
        self.assertEqual(ask(begin(), take([7, 8, 9, 0, 3], most=1))[1], [-1])
        self.assertEqual(ask(begin(), take([7, 0, 3, 8, 9], most=0))[1], [-1])

    def test_the_way_of_the_escape_is_followed_beyond_most(self):
        self.assertEqual(ask(begin(), take([7, 8, 0, 1, 51, 3], most=1))[1], [-1])
        self.assertEqual(ask(begin(), take([7, 8, 0, 1, 0, 3], most=1))[1], [-5])

    def test_below_0_nothing_changes(self):
        for refused, number in ((take([51, 3]), -1), (take([51, 1, 102, 1, 7, 7], most=3), -5),
                                (take([51, 2], most=16777217), -2), (take([51, 0, 7], most=16777217), -2),
                                (take([7, 51, 0], most=0), -5), (take([51, 2, 0, 0] + laid([259])), -1)):
            given = ask(begin(), take([0, 1]), refused, take([51, 1, 0]), take([102, 1]))
            self.assertEqual(given[1:], [came([0]), [number], came([51, 0]), came([102])])

    def test_below_0_nothing_changes_behind_the_escape(self):
        for refused, number in ((take([3]), -1), (take([1, 51, 1], most=1), -5), (take([1], most=0), -5),
                                (take([2], most=16777217), -2), (take([0] + laid([259])), -1),
                                (take([2, 7], most=0), -5)):
            given = ask(begin(), take([0]), refused, take([1, 51]), take([1]))
            self.assertEqual(given[1:], [[0], [number], came([0]), came([51])])


if __name__ == "__main__":
    unittest.main()
