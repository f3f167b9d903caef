import unittest

from helper import END, FLUSH, STEP, ask, begin, came, flush, laid, mode, put, reset, stride_pairs, take


class Reset(unittest.TestCase):
    def test_the_escape_and_2(self):
        self.assertEqual(ask(begin(), reset())[1], came([0, 2]))
        self.assertEqual(ask(begin(), reset(), reset())[1:], [came([0, 2])] * 2)

    def test_the_escape_is_the_one_of_now_and_0_behind_it(self):
        given = ask(begin(), put([0, 51]), reset(), put([102, 0]), reset())
        self.assertEqual(given[2:], [came([102, 2]), came([102, 0, 1]), came([51, 2])])

    def test_the_tree_is_as_at_the_beginning(self):
        given = ask(begin(), mode(1), put([1, 2, 9]), mode(0), reset(), mode(1), put([1, 2, 1, 2]), flush())
        self.assertEqual(given[4:6], [came([0, 2]), came([0, 0])])
        self.assertEqual(given[6][1:] + given[7][1:], laid([4, 5, 259, FLUSH]))

    def test_codes_and_longest_stay(self):
        row = [97] * (2 * (1 + 2 + 3 + 4 + 5 + 6) + 7 * 4)
        numbers = [100, 100, 259, 259, 260, 260, 261, 261, 262, 262, 263, 263] + [264] * 4
        given = ask(begin(600, 7), reset(), mode(1), put(row), flush())
        self.assertEqual(given[3][1:] + given[4][1:], laid(numbers + [FLUSH]))

    def test_codes_stay_where_next_goes_round(self):
        # 0 1 is 259, and it is taken out as 511 is added, if codes are 512
        row = list(range(253)) + [0, 1]
        for codes, number in ((512, [3, 4]), (513, [259])):
            given = ask(begin(codes), reset(), mode(1), put(row), flush())
            self.assertEqual(given[3][1:] + given[4][1:], laid(list(range(3, 256)) + number + [FLUSH]))

    def test_the_bits_are_nine_again(self):
        given = ask(begin(1024), mode(1), put(stride_pairs(1) + [0, 253, 254]), mode(0), reset(), mode(1),
                    put([7]), flush())
        self.assertEqual(given[2][1:] + given[3][1:], laid(list(range(3, 259)) + [3, STEP, 512, END]))
        self.assertEqual(given[7], came(laid([10, FLUSH])))

    def test_the_receiver_stays_as_it_is(self):
        given = ask(begin(), take([0, 1]), reset(), take([51, 1, 102]), take([102]), reset(), take([1]))
        self.assertEqual(given[3:], [came([51]), [-1], came([0, 2]), came([102])])


class Refusals(unittest.TestCase):
    def test_in_short(self):
        self.assertEqual(ask(begin(), mode(1), reset())[2], [-3])
        self.assertEqual(ask(begin(), mode(1), put([97]), flush(), reset())[4], [-3])
        self.assertEqual(ask(begin(), mode(1), reset(), mode(0), reset())[2:], [[-3], came([0, 0]), came([0, 2])])

    def test_edges_of_most(self):
        self.assertEqual(ask(begin(), reset(16777216))[1], came([0, 2]))
        self.assertEqual(ask(begin(), reset(16777217))[1], [-2])
        self.assertEqual(ask(begin(), reset(4294967295))[1], [-2])

    def test_as_many_octets_as_most_and_one_more(self):
        self.assertEqual(ask(begin(), reset(2))[1], came([0, 2]))
        self.assertEqual(ask(begin(), reset(1))[1], [-5])
        self.assertEqual(ask(begin(), reset(0))[1], [-5])

    def test_minus_2_goes_ahead_of_minus_3_and_that_ahead_of_minus_5(self):
        self.assertEqual(ask(begin(), mode(1), reset(16777217))[2], [-2])
        self.assertEqual(ask(begin(), mode(1), reset(0))[2], [-3])

    def test_refused_in_plain_nothing_changes(self):
        for refused, number in ((reset(1), -5), (reset(16777217), -2)):
            given = ask(begin(), mode(1), put([1, 2, 9]), mode(0), put([0]), refused, put([51]), mode(1),
                        put([1, 2]), refused, flush())
            self.assertEqual(given[5:9], [[number], came([51, 1]), came([102, 0]), [0]])
            self.assertEqual(given[10], came(laid([259, FLUSH])))

    def test_refused_in_short_nothing_changes(self):
        given = ask(begin(), mode(1), put([97, 97, 97]), reset(), put([97]), reset(), flush())
        self.assertEqual([given[3], given[5]], [[-3], [-3]])
        self.assertEqual(given[2][1:] + given[4][1:] + given[6][1:], laid([100, 100, 259, FLUSH]))


if __name__ == "__main__":
    unittest.main()
