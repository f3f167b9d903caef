import unittest

from helper import END, FLUSH, STEP, TO_SHORT, ask, begin, begun, bits_of, came, flush, laid, mode, octets_of, put, take
from shortline.receiver import Receiver

# the numbers of the bytes 0 to 252: behind them the nodes 259 to 510 are there, and next is 511
TO_511 = list(range(3, 256))


def taken(numbers, codes=512, longest=6, most=8000):
    """What one vb_take answers to the octets of these numbers, ahead of them the escape and 0."""
    return ask(begin(codes, longest), take(TO_SHORT + laid(numbers), most))[1]


class Numbers(unittest.TestCase):
    def test_of_bytes(self):
        self.assertEqual(taken([3, 258, 4, 257, FLUSH]), came([0, 255, 1, 254]))
        self.assertEqual(taken(list(range(3, 256)) + [FLUSH]), came(list(range(253))))

    def test_of_nodes(self):
        # 1 2 is 259, 2 1 is 260, 1 2 3 is 261
        self.assertEqual(taken([4, 5, 259, 6, FLUSH]), came([1, 2, 1, 2, 3]))
        self.assertEqual(taken([4, 5, 259, 6, 261, 260, FLUSH]), came([1, 2, 1, 2, 3, 1, 2, 3, 2, 1]))

    def test_a_node_of_the_same_byte(self):
        self.assertEqual(taken([100, 100, 259, FLUSH]), came([97] * 4))

    def test_the_longest_string_there_is(self):
        numbers = [100, 100] + [259 + k // 2 for k in range(2 * 249)]
        count = 2 * (250 * 251 // 2)
        self.assertEqual(taken(numbers + [FLUSH], 512, 250, 100000), came([97] * count))

    def test_they_come_as_soon_as_they_are_whole(self):
        row = laid([4, 5, 259, FLUSH])
        given = ask(begin(), take(TO_SHORT), *[take([octet]) for octet in row])
        self.assertEqual(given[1:], [[0], [0], came([1]), came([2]), came([1, 2]), [0]])

    def test_across_the_end_of_a_call(self):
        row = TO_SHORT + laid([4, 5, 259, 6, 261, 260, FLUSH])
        for cut in range(len(row) + 1):
            given = ask(begin(), take(row[:cut]), take(row[cut:]))
            self.assertEqual(given[1][1:] + given[2][1:], [1, 2, 1, 2, 3, 1, 2, 3, 2, 1])

    def test_that_are_no_node(self):
        self.assertEqual(taken([259]), [-1])
        self.assertEqual(taken([511]), [-1])
        self.assertEqual(taken([4, 5, 260]), [-1])
        self.assertEqual(taken([4, 5, 259, 261]), [-1])

    def test_the_node_that_would_only_be_added_now(self):
        self.assertEqual(taken([100, 259]), [-1])
        self.assertEqual(taken([4, 5, 259, 261]), [-1])

    def test_codes_and_above(self):
        for number in (600, 601, 1023):
            self.assertEqual(ask(begin(600), take(TO_SHORT + laid([100, STEP, number])))[1], [-1])

    def test_the_last_number_below_codes(self):
        # 513 is the 255th pair, 254 255
        numbers = list(range(3, 259)) + [3]
        self.assertEqual(taken(numbers + [STEP, 513, FLUSH], 514)[-3:], [0, 254, 255])
        self.assertEqual(taken(numbers + [STEP, 514, FLUSH], 514), [-1])
        self.assertEqual(taken(numbers + [STEP, 514, FLUSH], 515)[-3:], [0, 255, 0])

    def test_a_number_of_less_than_512_in_more_bits(self):
        self.assertEqual(taken([STEP, 100, 100, 259, STEP, 259, FLUSH], 2048), came([97] * 6))


class Adding(unittest.TestCase):
    def test_the_string_before_and_the_first_byte(self):
        # 259 is 1 2, 260 is 2 1, 261 is 1 2 1: the first byte of 259 goes into it, not its last
        self.assertEqual(taken([4, 5, 259, 259, 261, FLUSH]), came([1, 2, 1, 2, 1, 2, 1, 2, 1]))

    def test_nothing_is_added_where_there_is_such_a_node(self):
        # 97 97 is there from the second number on, so 260 is 97 98
        self.assertEqual(taken([100, 100, 100, 101, 260, FLUSH]), came([97, 97, 97, 98, 97, 98]))

    def test_nothing_is_added_to_a_string_as_long_as_longest(self):
        numbers = [100, 100] + [259 + k // 2 for k in range(10)]
        out = [97] * (2 * (1 + 2 + 3 + 4 + 5 + 6))
        self.assertEqual(taken(numbers + [264]), [-1])
        self.assertEqual(taken(numbers + [101, 264]), [-1])
        self.assertEqual(taken(numbers + [101, 102, 264, FLUSH]), came(out + [98, 99, 98, 99]))
        self.assertEqual(taken(numbers + [264, FLUSH], longest=7), came(out + [97] * 7))

    def test_not_from_one_flush_to_the_next(self):
        self.assertEqual(taken([4, FLUSH, 5, 6, 259, FLUSH]), came([1, 2, 3, 2, 3]))
        self.assertEqual(taken([4, FLUSH, 5, 259]), [-1])

    def test_not_from_one_short_to_the_next(self):
        row = TO_SHORT + laid([4, END]) + TO_SHORT
        self.assertEqual(ask(begin(), take(row + laid([5, 6, 259, FLUSH])))[1], came([1, 2, 3, 2, 3]))
        self.assertEqual(ask(begin(), take(row + laid([5, 259])))[1], [-1])

    def test_a_step_between_is_passed_over(self):
        self.assertEqual(taken([4, STEP, 5, 259, FLUSH], 600), came([1, 2, 1, 2]))

    def test_the_tree_stays_over_flush_and_plain(self):
        self.assertEqual(taken([4, 5, FLUSH, 259, FLUSH]), came([1, 2, 1, 2]))
        row = TO_SHORT + laid([4, 5, END]) + [7, 0, 1, 51, 0] + laid([259, FLUSH])
        self.assertEqual(ask(begin(), take(row))[1], came([1, 2, 7, 0, 1, 2]))


class TakenOut(unittest.TestCase):
    """With codes 512 the 253rd adding goes to 511, and takes 259 out."""

    def test_a_number_taken_out_by_the_adding_ahead_of_it(self):
        self.assertEqual(taken(TO_511 + [259]), [-1])

    def test_its_neighbours_are_not(self):
        self.assertEqual(taken(TO_511 + [260, FLUSH]), came(list(range(253)) + [1, 2]))
        self.assertEqual(taken(TO_511 + [510, FLUSH]), came(list(range(253)) + [251, 252]))

    def test_one_more_code_leaves_it_there(self):
        self.assertEqual(taken(TO_511 + [259, FLUSH], 513), came(list(range(253)) + [0, 1]))

    def test_one_number_sooner_it_is_there(self):
        self.assertEqual(taken(TO_511[:-1] + [259, FLUSH]), came(list(range(252)) + [0, 1]))

    def test_where_nothing_is_added_it_is_there(self):
        self.assertEqual(taken(TO_511 + [FLUSH, 259, FLUSH]), came(list(range(253)) + [0, 1]))

    def test_it_is_free_behind_it(self):
        self.assertEqual(taken(TO_511 + [3, FLUSH, 259]), [-1])
        self.assertEqual(taken(TO_511 + [3, FLUSH, 511, FLUSH]), came(list(range(253)) + [0, 252, 0]))

    def test_it_is_given_anew_and_the_one_behind_it_is_taken_out(self):
        # 511 is 252 0, then 259 is 0 2 and 260 is out
        numbers = TO_511 + [3, 5, FLUSH]
        out = list(range(253)) + [0, 2]
        self.assertEqual(taken(numbers + [259, FLUSH]), came(out + [0, 2]))
        self.assertEqual(taken(numbers + [260]), [-1])
        self.assertEqual(taken(numbers + [261, FLUSH]), came(out + [2, 3]))

    def test_a_parent_is_passed(self):
        # 510 is 0 1 2, whose parent is 259: so the adding of 511 takes 260 out
        numbers = list(range(3, 255)) + [FLUSH, 259, 5, 7]
        out = list(range(252)) + [0, 1, 2, 4]
        self.assertEqual(taken(numbers + [FLUSH, 510, FLUSH]), came(out + [0, 1, 2]))
        self.assertEqual(taken(numbers + [FLUSH, 259, FLUSH]), came(out + [0, 1]))
        self.assertEqual(taken(numbers + [FLUSH, 260]), [-1])


class Step(unittest.TestCase):
    def test_only_while_2_to_the_bits_is_below_codes(self):
        self.assertEqual(taken([STEP], 512), [-1])
        self.assertEqual(taken([STEP, 100, FLUSH], 513), came([97]))
        self.assertEqual(taken([STEP, STEP], 513), [-1])
        self.assertEqual(taken([STEP, STEP], 1024), [-1])
        self.assertEqual(taken([STEP, STEP, 100, FLUSH], 1025), came([97]))
        self.assertEqual(taken([STEP, STEP, STEP], 2048), [-1])

    def test_up_to_16_bits(self):
        self.assertEqual(taken([STEP] * 7 + [100, FLUSH], 65536), came([97]))
        self.assertEqual(taken([STEP] * 8, 65536), [-1])
        self.assertEqual(taken([STEP] * 6 + [100, FLUSH], 32768), came([97]))
        self.assertEqual(taken([STEP] * 7, 32768), [-1])
        self.assertEqual(taken([STEP] * 7 + [100, FLUSH], 32769), came([97]))

    def test_the_bits_stay_up(self):
        self.assertEqual(taken([STEP, 100, FLUSH, 101, FLUSH], 600), came([97, 98]))
        row = TO_SHORT + laid([STEP, 100, END]) + TO_SHORT
        self.assertEqual(ask(begin(600), take(row + laid([101, FLUSH], 10)))[1], came([97, 98]))

    def test_nothing_comes_of_it(self):
        self.assertEqual(taken([STEP], 600, most=0), [0])


class Signs(unittest.TestCase):
    def test_0_bits_stand_behind_flush_and_end(self):
        for sign in (FLUSH, END):
            self.assertEqual(taken([100, sign]), came([97]))
            row = TO_SHORT + laid([100, sign])
            for place in range(18, 24):
                bits = bits_of(laid([100, sign]))
                bits[place] = 1
                self.assertEqual(ask(begin(), take(TO_SHORT + octets_of(bits)))[1], [-1])
                self.assertEqual(ask(begin(), take(row[:4]), take(octets_of(bits)[2:]))[2], [-1])

    def test_no_bits_where_the_octet_is_at_its_end(self):
        numbers = [4, 5, 6, 7, 8, 9, 10]
        self.assertEqual(taken(numbers + [FLUSH, 100, FLUSH]), came([1, 2, 3, 4, 5, 6, 7, 97]))
        row = TO_SHORT + laid(numbers + [END]) + [97]
        self.assertEqual(ask(begin(), take(row))[1], came([1, 2, 3, 4, 5, 6, 7, 97]))

    def test_the_next_octet_may_be_any(self):
        self.assertEqual(taken([100, FLUSH, 258, FLUSH]), came([97, 255]))
        self.assertEqual(ask(begin(), take(TO_SHORT + laid([100, END]) + [255]))[1], came([97, 255]))

    def test_flush_leaves_it_short_and_end_makes_it_plain(self):
        given = ask(begin(), take(TO_SHORT + laid([100, FLUSH])), take(laid([101, END])), take([100, 101]))
        self.assertEqual(given[1:], [came([97]), came([98]), came([100, 101])])

    def test_signs_without_a_string(self):
        self.assertEqual(taken([END]), [0])
        self.assertEqual(taken([FLUSH, FLUSH, 100, FLUSH]), came([97]))

    def test_octets_in_short_are_no_escapes(self):
        # 3 + 3 * 512 begins with octet 3, then 6, 0; the 0 of FLUSH's bits is no escape either
        given = ask(begin(), take(TO_SHORT + laid([3, 3, FLUSH, 54, END])), take([51, 0, 1]))
        self.assertEqual(given[1:], [came([0, 0, 51]), came([51, 0])])

    def test_there_and_back_several_times(self):
        row = []
        for byte in (5, 6, 7):
            row += [byte] + TO_SHORT + laid([3 + byte, 3 + byte, END])
        self.assertEqual(ask(begin(), take(row))[1], came([5, 5, 5, 6, 6, 6, 7, 7, 7]))


class Refusals(unittest.TestCase):
    def short(self, *calls):
        return ask(begin(), take(TO_SHORT + laid([4, 5, FLUSH])), *calls)[2:]

    def test_edges_of_most(self):
        row = laid([259, FLUSH])
        self.assertEqual(self.short(take(row, 16777216)), [came([1, 2])])
        self.assertEqual(self.short(take(row, 16777217)), [[-2]])

    def test_as_many_bytes_as_most_and_one_more(self):
        row = laid([259, FLUSH])
        self.assertEqual(self.short(take(row, 2)), [came([1, 2])])
        self.assertEqual(self.short(take(row, 1)), [[-5]])
        self.assertEqual(self.short(take(row, 0)), [[-5]])
        row = laid([259, 259, 100, FLUSH])
        self.assertEqual(self.short(take(row, 5)), [came([1, 2, 1, 2, 97])])
        for most in range(5):
            self.assertEqual(self.short(take(row, most)), [[-5]])

    def test_minus_2_goes_ahead_of_minus_1(self):
        self.assertEqual(self.short(take(laid([511]), 16777217)), [[-2]])

    def test_minus_1_goes_ahead_of_minus_5(self):
        self.assertEqual(self.short(take(laid([259, 259, 511]), 0)), [[-1]])
        self.assertEqual(self.short(take(laid([259, STEP]), 1)), [[-1]])
        self.assertEqual(self.short(take(laid([259, 511, 259]), 1)), [[-1]])

    def test_the_tree_is_followed_beyond_most(self):
        # 260 is there only by what comes beyond most
        self.assertEqual(self.short(take(laid([4, 6, 260, FLUSH]), 0)), [[-5]])
        self.assertEqual(self.short(take(laid([4, 6, 261, FLUSH]), 0)), [[-1]])

    def test_below_0_nothing_changes(self):
        # behind 100 4 there is 260, 97 1, and 4 is the string before
        ahead = take(TO_SHORT + laid([4, 5, FLUSH, 100, 4])[:-1])
        rest = laid([4, 5, FLUSH, 100, 4, 6, 261, 260, 259, FLUSH])
        start = len(laid([4, 5, FLUSH, 100, 4])) - 1
        behind = take(rest[start:])
        plain = ask(begin(), ahead, behind)
        self.assertEqual(plain[1][1:] + plain[2][1:], [1, 2, 97, 1, 3, 1, 3, 97, 1, 1, 2])
        for refused, number in self.refused_in_the_middle(rest, start):
            given = ask(begin(), ahead, refused, behind, take([], 0))
            self.assertEqual(given[2], [number])
            self.assertEqual([given[1], given[3]], plain[1:])

    def refused_in_the_middle(self, rest, start):
        """Calls that are refused where the octets ahead of start are taken, each with its number."""
        middle = laid([4, 5, FLUSH, 100, 4, 6, 6, 261, 511])[start:]
        end = laid([4, 5, FLUSH, 100, 4, 6, END])[start:]
        return [
            (take(middle), -1),
            (take(rest[start:], 1), -5),
            (take(rest[start:], 16777217), -2),
            (take(rest[start:start + 1], 16777217), -2),
            (take(end + [0, 2, 0, 3]), -1),
            (take(end + [0, 2], 0), -5),
            (take(end[:-1] + [end[-1] + 128]), -1),
        ]

    def test_below_0_nothing_changes_in_the_middle_of_a_number(self):
        # 258 then 258: the first 8 bits of either are 2
        for refused, number in ((take([2, 255]), -1), (take([1], 0), -5), (take([1], 16777217), -2)):
            given = ask(begin(), take(TO_SHORT + [2]), refused, take(laid([258, 258, FLUSH])[1:]))
            self.assertEqual(given[1:], [[0], [number], came([255, 255])])

    def test_below_0_the_bits_and_the_string_before_stay(self):
        for refused, number in ((take(laid([STEP, STEP])), -1), (take(laid([STEP, 100]), 0), -5),
                                (take(laid([FLUSH, 511])), -1), (take(laid([FLUSH, 100]), 0), -5)):
            # eight numbers end at an octet's end
            first = take(TO_SHORT + laid([4, 6, 8, 10, 12, 14, 16, 18]))
            given = ask(begin(600), first, refused, take(laid([20, 266, FLUSH])))
            self.assertEqual(given[1:], [came([1, 3, 5, 7, 9, 11, 13, 15]), [number], came([17, 15, 17])])

    def test_below_0_what_was_taken_out_is_there(self):
        first = take(TO_SHORT + laid(TO_511 + [FLUSH]))
        for refused, number in ((take(laid([3, 5, 7, 260])), -1), (take(laid([7, 3, 7, 3, FLUSH]), 1), -5)):
            given = ask(begin(), first, refused, take(laid([259, FLUSH, 260, FLUSH])))
            self.assertEqual(given[2:], [[number], came([0, 1, 1, 2])])

    def test_the_sender_is_another(self):
        given = ask(begin(), take(TO_SHORT + laid([4, 5, FLUSH])), put([0]), mode(0), mode(1), put([1, 2]), flush())
        self.assertEqual(given[2:5], [came([0, 1]), [-3], came([51, 0])])
        self.assertEqual(given[5][1:] + given[6][1:], laid([4, 5, FLUSH]))
        given = ask(begin(), mode(1), put([97]), take([97]), take([0, 3]), flush())
        self.assertEqual(given[3:], [came([97]), [-1], came([100, 2, 0])])

    def test_a_refusal_leaves_no_bytes_for_the_next_call(self):
        modem = begun()
        self.assertEqual(modem.take(1, [5, 6]), [-5])
        self.assertEqual(modem.take(1, [7]), [1, 7])
        self.assertEqual(modem.take(1, []), [0])

    def test_a_receiver_keeps_no_bytes_for_its_next_row(self):
        receiver = Receiver(512, 6)
        self.assertEqual(receiver.take([5, 6], 9), [5, 6])
        self.assertEqual(receiver.take([7], 9), [7])


if __name__ == "__main__":
    unittest.main()
