import unittest

from helper import END, FLUSH, STEP, TO_SHORT, ask, begin, came, flush, laid, mode, put, stride_pairs


class ToShort(unittest.TestCase):
    def test_the_escape_and_0(self):
        self.assertEqual(ask(begin(), mode(1))[1], came([0, 0]))

    def test_the_escape_is_the_one_of_now(self):
        self.assertEqual(ask(begin(), put([0, 51]), mode(1))[2], came([102, 0]))

    def test_the_escape_is_not_moved_on_by_it(self):
        given = ask(begin(), put([0]), mode(1), mode(0), mode(1), mode(0), put([51, 102]))
        self.assertEqual(given[2], came([51, 0]))
        self.assertEqual(given[4], came([51, 0]))
        self.assertEqual(given[6], came([51, 1, 102, 1]))

    def test_bytes_go_short_behind_it(self):
        given = ask(begin(), mode(1), put([97]), flush(), put([1, 2, 1, 2]), flush())
        self.assertEqual(given[2:4], [[0], came(laid([100, FLUSH]))])
        self.assertEqual(given[4][1:] + given[5][1:], laid([4, 5, 259, FLUSH]))

    def test_what_was_put_in_plain_is_not_in_the_tree(self):
        given = ask(begin(), put([1, 2]), mode(1), put([1, 2]), flush())
        self.assertEqual(given[3][1:] + given[4][1:], laid([4, 5, FLUSH]))


class ToPlain(unittest.TestCase):
    def test_without_a_string_it_is_end_alone(self):
        self.assertEqual(ask(begin(), mode(1), mode(0))[2], came(laid([END])))
        self.assertEqual(laid([END]), [0, 0])

    def test_a_string_gathered_goes_ahead_of_end(self):
        self.assertEqual(ask(begin(), mode(1), put([97]), mode(0))[3], came([100, 0, 0]))

    def test_a_node_gathered(self):
        given = ask(begin(), mode(1), put([1, 2, 1, 2]), mode(0))
        self.assertEqual(given[2][1:] + given[3][1:], laid([4, 5, 259, END]))

    def test_behind_a_flush_it_is_end_alone(self):
        self.assertEqual(ask(begin(), mode(1), put([97]), flush(), mode(0))[4], came([0, 0]))

    def test_octets_that_were_not_whole_go_too(self):
        given = ask(begin(), mode(1), put([255, 255, 255]), mode(0))
        self.assertEqual(given[2], came(laid([258, 258])[:2]))
        self.assertEqual(given[2][1:] + given[3][1:], laid([258, 258, 258, END]))

    def test_no_bits_where_the_octet_is_at_its_end(self):
        # seven numbers and END are 72 bits; without the bits of an octet begun a byte follows at once
        given = ask(begin(), mode(1), put([1, 2, 3, 4, 5, 6, 7]), mode(0), put([9]))
        self.assertEqual(len(given[2][1:] + given[3][1:]), 9)
        self.assertEqual(given[4], came([9]))

    def test_bytes_go_as_they_are_behind_it(self):
        given = ask(begin(), mode(1), put([97, 97]), mode(0), put([97, 0, 98]), flush())
        self.assertEqual(given[4:], [came([97, 0, 1, 98]), [0]])

    def test_bytes_in_short_do_not_move_the_escape(self):
        self.assertEqual(ask(begin(), mode(1), put([0, 51]), mode(0), put([51, 0]))[4], came([51, 0, 1]))


class ThereAndBack(unittest.TestCase):
    def test_several_times(self):
        given = ask(begin(), *[mode(k % 2) for k in range(1, 9)])
        self.assertEqual(given[1:], [came(TO_SHORT), came([0, 0])] * 4)

    def test_the_tree_stays(self):
        given = ask(begin(), mode(1), put([1, 2, 9]), mode(0), put([5, 6]), mode(1), put([1, 2]), flush())
        self.assertEqual(given[6:], [[0], came(laid([259, FLUSH]))])

    def test_the_next_node_stays(self):
        given = ask(begin(), mode(1), put([1, 2]), mode(0), mode(1), put([3, 4, 9]), flush(), put([3, 4]), flush())
        self.assertEqual(given[7:], [[0], came(laid([260, FLUSH]))])

    def test_nothing_is_added_over_the_gap(self):
        # 2 3 is 259, so 1 2 isn't
        given = ask(begin(), mode(1), put([1]), mode(0), mode(1), put([2, 3]), flush(), put([1, 2, 3]), flush())
        self.assertEqual(given[7][1:] + given[8][1:], laid([4, 259, FLUSH]))

    def test_the_string_is_not_gathered_any_more(self):
        given = ask(begin(), mode(1), put([97]), mode(0), mode(1), flush(), mode(0))
        self.assertEqual(given[5:], [[0], came([0, 0])])

    def test_the_node_added_last_may_be_taken_behind_it(self):
        given = ask(begin(), mode(1), put([97, 97]), mode(0), mode(1), put([97, 97]), flush())
        self.assertEqual(given[5:], [[0], came(laid([259, FLUSH]))])

    def test_the_bits_stay_up(self):
        calls = [begin(1024), mode(1), put(stride_pairs(1) + [0, 253, 254]), mode(0), mode(1), put([7]), flush()]
        given = ask(*calls)
        self.assertEqual(given[2][1:] + given[3][1:], laid(list(range(3, 259)) + [3, STEP, 512, END]))
        self.assertEqual(given[6], came(laid([10, FLUSH], 10)))

    def test_end_has_as_many_bits_as_any_number(self):
        # node 1024 is the 254th pair of stride 5; three numbers of 11 bits are five octets
        row = stride_pairs(1) + stride_pairs(3) + stride_pairs(5) + [0, 253 * 5 % 256, 254 * 5 % 256]
        given = ask(begin(2048), mode(1), put(row), flush(), put([97, 99]), mode(0), put([7]))
        self.assertEqual(given[4][1:] + given[5][1:], laid([100, 102, END], 11))
        self.assertEqual(len(laid([100, 102, END], 11)), 5)
        self.assertEqual(given[6], came([7]))


class Refusals(unittest.TestCase):
    def test_compressed(self):
        self.assertEqual(ask(begin(), mode(1))[1], came([0, 0]))
        self.assertEqual(ask(begin(), mode(2))[1], [-2])
        self.assertEqual(ask(begin(), mode(4294967295))[1], [-2])
        self.assertEqual(ask(begin(), mode(1), mode(2), mode(0))[2:], [[-2], came([0, 0])])

    def test_where_it_is_so_already(self):
        self.assertEqual(ask(begin(), mode(0))[1], [-3])
        self.assertEqual(ask(begin(), mode(1), mode(1))[2], [-3])
        self.assertEqual(ask(begin(), mode(1), mode(0), mode(0))[3], [-3])
        self.assertEqual(ask(begin(), mode(1), put([97]), mode(1), mode(1))[3:], [[-3], [-3]])

    def test_edges_of_most(self):
        self.assertEqual(ask(begin(), mode(1, 16777216))[1], came([0, 0]))
        self.assertEqual(ask(begin(), mode(1, 16777217))[1], [-2])
        self.assertEqual(ask(begin(), mode(1, 4294967295))[1], [-2])
        self.assertEqual(ask(begin(), mode(1), mode(0, 16777216))[2], came([0, 0]))
        self.assertEqual(ask(begin(), mode(1), mode(0, 16777217))[2], [-2])

    def test_as_many_octets_as_most_and_one_more(self):
        self.assertEqual(ask(begin(), mode(1, 2))[1], came([0, 0]))
        self.assertEqual(ask(begin(), mode(1, 1))[1], [-5])
        self.assertEqual(ask(begin(), mode(1, 0))[1], [-5])
        self.assertEqual(ask(begin(), mode(1), mode(0, 2))[2], came([0, 0]))
        self.assertEqual(ask(begin(), mode(1), mode(0, 1))[2], [-5])
        self.assertEqual(ask(begin(), mode(1), put([97]), mode(0, 3))[3], came([100, 0, 0]))
        self.assertEqual(ask(begin(), mode(1), put([97]), mode(0, 2))[3], [-5])

    def test_minus_2_goes_ahead_of_minus_3(self):
        self.assertEqual(ask(begin(), mode(0, 16777217))[1], [-2])
        self.assertEqual(ask(begin(), mode(1), mode(1, 16777217))[2], [-2])

    def test_minus_2_goes_ahead_of_minus_5(self):
        self.assertEqual(ask(begin(), mode(2, 0))[1], [-2])
        self.assertEqual(ask(begin(), mode(1), mode(2, 0))[2], [-2])

    def test_minus_3_goes_ahead_of_minus_5(self):
        self.assertEqual(ask(begin(), mode(0, 0))[1], [-3])
        self.assertEqual(ask(begin(), mode(1), put([97]), mode(1, 0))[3], [-3])

    def test_refused_in_plain_nothing_changes(self):
        for refused, number in ((mode(0), -3), (mode(1, 1), -5), (mode(2), -2), (mode(1, 16777217), -2)):
            given = ask(begin(), put([0]), refused, put([51, 7]), refused, mode(1), put([97]), flush())
            expected = [[number], came([51, 1, 7]), [number], came([102, 0]), [0], came([100, 2, 0])]
            self.assertEqual(given[2:], expected)

    def test_refused_in_short_nothing_changes(self):
        for refused, number in ((mode(1), -3), (mode(0, 1), -5), (mode(2), -2), (mode(0, 16777217), -2)):
            with_it = ask(begin(), mode(1), put([1, 2, 1, 2]), refused, put([3, 3]), refused, put([3]), flush())
            without = ask(begin(), mode(1), put([1, 2, 1, 2]), put([3, 3]), put([3]), flush())
            self.assertEqual([with_it.pop(5), with_it.pop(3)], [[number], [number]])
            self.assertEqual(with_it, without)


if __name__ == "__main__":
    unittest.main()
