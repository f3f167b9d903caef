import random
import unittest

from helper import (
    FLUSH, STEP, ModelSender, begun, came, model_take, octets_of, read_numbers, short_sender, stride_pairs,
    words,
)


def numbers_sent(row, codes=512, longest=6):
    """The numbers that go for a row and a flush, FLUSH itself left out."""
    sender = short_sender(codes, longest)
    numbers = read_numbers(sender.put(row) + sender.flush())
    # behind FLUSH an octet's end may leave no room for another number
    assert numbers[-1] == FLUSH
    return numbers[:-1]


class StringsGathered(unittest.TestCase):
    def test_the_first_byte_waits(self):
        sender = short_sender()
        self.assertEqual(sender.put([97]), [])
        self.assertEqual(sender.string, 100)

    def test_no_bytes(self):
        sender = short_sender()
        self.assertEqual(sender.put([]), [])
        self.assertIsNone(sender.string)

    def test_bytes_go_as_numbers_from_3_to_258(self):
        self.assertEqual(numbers_sent([0, 255, 1, 254]), [3, 258, 4, 257])

    def test_a_pair_seen_before_goes_as_its_node(self):
        # 1 2 is 259, 2 1 is 260, 1 2 3 is 261
        self.assertEqual(numbers_sent([1, 2, 1, 2, 3]), [4, 5, 259, 6])
        self.assertEqual(numbers_sent([1, 2, 1, 2, 3, 1, 2, 3, 9]), [4, 5, 259, 6, 261, 12])
        self.assertEqual(numbers_sent([1, 2, 1, 2, 3, 2, 1, 9]), [4, 5, 259, 6, 260, 12])

    def test_nodes_are_numbered_as_they_are_added(self):
        sender = short_sender()
        sender.put([1, 2, 1, 2, 3])
        self.assertEqual(sender.tree.find(4, 2), 259)
        self.assertEqual(sender.tree.find(5, 1), 260)
        self.assertEqual(sender.tree.find(259, 3), 261)
        self.assertEqual(sender.tree.next_node, 262)

    def test_gathering_goes_on_from_call_to_call(self):
        row = [1, 2, 1, 2, 3, 1, 2, 3, 9, 1, 2, 3, 9, 9]
        whole = short_sender()
        pieces = short_sender()
        together = [octet for byte in row for octet in pieces.put([byte])]
        self.assertEqual(together, whole.put(row))
        self.assertEqual(pieces.flush(), whole.flush())

    def test_the_escape_has_no_meaning_in_short(self):
        self.assertEqual(numbers_sent([0, 51, 0]), [3, 54, 3])
        sender = short_sender()
        sender.put([0, 0, 0])
        self.assertEqual(sender.escape, 0)


class NodeAddedLast(unittest.TestCase):
    def test_it_is_not_taken_by_the_next_string(self):
        # 97 97 is 259 with the first 97, and may go from the third 97 on
        self.assertEqual(numbers_sent([97] * 2), [100, 100])
        self.assertEqual(numbers_sent([97] * 3), [100, 100, 100])
        self.assertEqual(numbers_sent([97] * 4), [100, 100, 259])

    def test_it_is_not_added_a_second_time(self):
        sender = short_sender()
        sender.put([97] * 3)
        self.assertEqual(sender.tree.next_node, 260)
        self.assertEqual(sender.tree.find(100, 97), 259)

    def test_a_string_that_adds_nothing_leaves_none_to_pass_over(self):
        sender = short_sender()
        sender.put([97] * 3)
        self.assertIsNone(sender.fresh)
        sender.put([97])
        self.assertEqual(sender.string, 259)

    def test_behind_a_flush_it_may_be_taken(self):
        sender = short_sender()
        sender.put([97, 97])
        sender.flush()
        sender.put([97, 97])
        self.assertEqual(sender.string, 259)

    def test_longer_strings(self):
        # 1 2 1 2 1: 259 is 1 2, 260 is 2 1, 261 is 1 2 1
        self.assertEqual(numbers_sent([1, 2, 1, 2, 1, 2, 1]), [4, 5, 259, 259, 4])


class Longest(unittest.TestCase):
    def test_a_string_as_long_as_longest_is_not_added(self):
        row = [97] * (2 * (1 + 2 + 3 + 4 + 5) + 6 * 4)
        pairs = [100, 100, 259, 259, 260, 260, 261, 261, 262, 262]
        self.assertEqual(numbers_sent(row), pairs + [263] * 4)

    def test_the_longest_node_has_longest_bytes(self):
        sender = short_sender(512, 6)
        sender.put([97] * 200)
        self.assertEqual(sender.tree.length_of(263), 6)
        self.assertEqual(sender.tree.next_node, 264)

    def test_the_byte_behind_it_is_not_added_though_it_is_another(self):
        sender = short_sender(512, 6)
        sender.put([97] * 36 + [98])
        self.assertEqual(sender.tree.next_node, 264)
        sender.put([99])
        self.assertEqual(sender.tree.find(101, 99), 264)

    def test_one_more_is_allowed_by_one_more(self):
        sender = short_sender(512, 7)
        sender.put([97] * 200)
        self.assertEqual(sender.tree.length_of(264), 7)
        self.assertEqual(sender.tree.next_node, 265)

    def test_250(self):
        sender = short_sender(512, 250)
        row = [97] * 64000
        octets = sender.put(row) + sender.flush()
        self.assertEqual(sender.tree.next_node, 259 + 249)
        self.assertEqual(sender.tree.length_of(259 + 248), 250)
        self.assertEqual(model_take(512, 250, octets), row)


class Octets(unittest.TestCase):
    def test_the_lowest_bit_goes_first(self):
        # 258 and 4 in 9 bits each, and 258 + 4 * 512 is 2306
        sender = short_sender()
        self.assertEqual(sender.put([255, 1]), [2306 % 256])
        self.assertEqual(sender.put([2]), [2306 // 256])

    def test_octets_that_are_not_whole_wait(self):
        sender = short_sender()
        row = list(range(10, 20))
        counts = [len(sender.put([byte])) for byte in row]
        # eight numbers of 9 bits are nine octets
        self.assertEqual(counts, [0, 1, 1, 1, 1, 1, 1, 1, 2, 1])

    def test_step_goes_ahead_of_the_first_number_of_ten_bits(self):
        # 512 is the 254th pair, 253 254
        row = stride_pairs(1) + [0]
        self.assertEqual(numbers_sent(row + [252, 253], 1024)[-1:], [511])
        self.assertNotIn(STEP, numbers_sent(row + [252, 253], 1024))
        self.assertEqual(numbers_sent(row + [253, 254], 1024)[-3:], [3, STEP, 512])

    def test_step_is_sent_in_the_bits_before_it(self):
        sender = short_sender(1024, 6)
        octets = sender.put(stride_pairs(1) + [0, 253, 254]) + sender.flush()
        bits = [number >> k & 1 for number in list(range(3, 259)) + [3, STEP] for k in range(9)]
        bits += [number >> k & 1 for number in (512, FLUSH) for k in range(10)]
        self.assertEqual(octets, octets_of(bits + [0] * (-len(bits) % 8)))
        self.assertEqual(sender.bits, 10)

    def test_the_bits_stay_up(self):
        sender = short_sender(1024, 6)
        sender.put(stride_pairs(1) + [0, 253, 254])
        sender.flush()
        sender.put([7])
        self.assertEqual(sender.flush(), octets_of([0, 1, 0, 1] + [0] * 6 + [1] + [0] * 13))

    def test_two_steps_for_one_number(self):
        # strides 1, 3 and 5 are nodes 259 to 1026, so 1024 is the 254th pair of stride 5
        row = stride_pairs(1) + stride_pairs(3) + stride_pairs(5) + [0]
        pair = [253 * 5 % 256, 254 * 5 % 256]
        self.assertEqual(numbers_sent(row + pair, 2048)[-4:], [3, STEP, STEP, 1024])

    def test_no_number_of_512_codes_needs_a_step(self):
        generator = random.Random(5)
        row = [generator.randrange(3) for k in range(5000)]
        self.assertNotIn(STEP, numbers_sent(row, 512, 250))

    def test_sixteen_bits(self):
        row = []
        for stride in range(1, 256, 2):
            row += stride_pairs(stride)
        sender = short_sender(65536, 6)
        octets = sender.put(row + row + row) + sender.flush()
        self.assertEqual(sender.bits, 16)
        self.assertEqual(model_take(65536, 6, octets), row + row + row)


class NextGoesRound(unittest.TestCase):
    def test_the_last_number_is_codes_minus_1(self):
        # 253 pairs fill 259 to 511
        sender = short_sender()
        sender.put(list(range(253)))
        self.assertEqual(sender.tree.next_node, 511)
        sender.put([253])
        self.assertEqual(sender.tree.find(255, 253), 511)
        self.assertEqual(sender.tree.next_node, 259)

    def test_one_code_more_is_one_node_more(self):
        sender = short_sender(513)
        sender.put(list(range(254)))
        self.assertEqual(sender.tree.next_node, 512)
        sender.put([254])
        self.assertEqual(sender.tree.next_node, 259)

    def test_a_node_without_heirs_is_taken_out(self):
        sender = short_sender()
        sender.put(list(range(253)))
        self.assertEqual(sender.tree.find(3, 1), 259)
        sender.put([253])
        self.assertIsNone(sender.tree.find(3, 1))
        self.assertEqual(sender.tree.find(4, 2), 260)

    def test_its_number_is_given_again_and_the_next_taken_out(self):
        sender = short_sender()
        sender.put(list(range(255)))
        self.assertEqual(sender.tree.find(256, 254), 259)
        self.assertIsNone(sender.tree.find(4, 2))
        self.assertEqual(sender.tree.next_node, 260)

    def test_a_string_taken_out_goes_by_its_bytes(self):
        row = list(range(254))
        self.assertEqual(numbers_sent(row + [9, 0, 1])[-3:], [12, 3, 4])
        self.assertEqual(numbers_sent(row + [9, 100, 101])[-2:], [12, 359])

    def parents_first(self):
        """259 is 0 1, 260 is 1 0, and 261 is 0 1 2: 259 has an heir."""
        sender = short_sender()
        sender.put([0, 1, 0, 1])
        # 2 3, 3 4 and so on are 262 to 510, and 511 with the byte behind them
        sender.put(list(range(2, 252)))
        self.assertEqual(sender.tree.next_node, 511)
        return sender

    def test_next_goes_past_parents(self):
        sender = self.parents_first()
        sender.put([252])
        self.assertEqual(sender.tree.find(3, 1), 259)
        self.assertEqual(sender.tree.find(259, 2), 261)
        self.assertIsNone(sender.tree.find(4, 0))
        self.assertEqual(sender.tree.next_node, 260)

    def test_a_parent_whose_heir_is_out_is_taken_out_a_round_later(self):
        sender = self.parents_first()
        sender.put([252, 253])
        self.assertEqual(sender.tree.next_node, 261)
        self.assertIsNone(sender.tree.find(259, 2))
        self.assertEqual(sender.tree.find(3, 1), 259)
        # no pair of stride 3 is a node: 252 of them reach the round's end
        pairs = [(253 + 3 * k) % 256 for k in range(1, 260)]
        for byte in pairs:
            if sender.tree.find(3, 1) is None:
                break
            at = sender.tree.next_node
            sender.put([byte])
        self.assertEqual(at, 511)
        self.assertEqual(sender.tree.next_node, 259)

    def test_a_node_just_added_is_not_passed_for_its_number(self):
        sender = short_sender()
        sender.put(list(range(253)))
        copied = sender.tree.copy()
        self.assertEqual(copied.add(255, 253), 511)
        self.assertEqual(copied.find(255, 253), 511)
        self.assertEqual(sender.tree.next_node, 511)


class Against(unittest.TestCase):
    """The sender beside the model, which keeps whole strings."""

    def rows(self, seed, letters, rounds):
        return words(random.Random(seed), letters, rounds)

    def compare(self, codes, longest, rows, flush_each):
        sender = short_sender(codes, longest)
        model = ModelSender(codes, longest)
        gone = []
        for k, row in enumerate(rows):
            gone += sender.put(row)
            self.assertEqual(gone, model.put(row))
            if k % flush_each == 0:
                gone += sender.flush()
                self.assertEqual(gone, model.flush())
                together = [byte for done in rows[:k + 1] for byte in done]
                self.assertEqual(model_take(codes, longest, gone), together)
        strings = {number: string for number, string in model.tree.strings.items() if number >= 259}
        self.assertEqual(sorted(sender.tree.ends), sorted(strings))
        self.assertEqual(sender.tree.next_node, model.tree.next)

    def test_few_letters(self):
        for seed in range(4):
            self.compare(512, 6, self.rows(seed, 2, 60), 7)
            self.compare(512, 250, self.rows(seed, 3, 60), 1)

    def test_many_letters(self):
        for seed in range(4):
            self.compare(512, 7, self.rows(seed, 256, 80), 9)
            self.compare(515, 30, self.rows(seed, 40, 80), 20)

    def test_more_bits(self):
        self.compare(1100, 20, self.rows(8, 30, 200), 40)
        self.compare(4096, 250, self.rows(9, 200, 200), 60)


class ShortRefusals(unittest.TestCase):
    def modem(self):
        modem = begun()
        modem.mode(1, 2)
        return modem

    def test_octets_that_wait_are_not_counted(self):
        self.assertEqual(self.modem().put(0, [97]), [0])
        self.assertEqual(self.modem().put(1, [97, 98]), came([100]))
        self.assertEqual(self.modem().put(0, [97, 98]), [-5])

    def call_by_call(self, codes, longest, row, size):
        """Small calls with a refused one ahead of each, beside the model, which is never asked those."""
        modem = begun(codes, longest)
        modem.mode(1, 2)
        model = ModelSender(codes, longest)
        gone = []
        for k in range(0, len(row), size):
            self.assertEqual(modem.put(0, list(range(256))), [-5])
            gone += modem.put(2000, row[k:k + size])[1:]
            self.assertEqual(gone, model.put(row[k:k + size]))
            if k % 5 == 0:
                self.assertEqual(modem.flush(0), [-5])
                gone += modem.flush(2000)[1:]
                self.assertEqual(gone, model.flush())
        self.assertEqual(model_take(codes, longest, gone + modem.flush(2000)[1:]), row)
        return modem.sender

    def test_refusals_between_change_nothing(self):
        generator = random.Random(3)
        row = [generator.choice((1, 1, 1, 2, 3, 9)) for k in range(3000)]
        self.call_by_call(512, 7, row, 3)
        self.call_by_call(512, 250, row, 1)
        self.assertEqual(self.call_by_call(2048, 30, row, 7).bits, 10)

    def test_the_node_added_last_is_not_taken_by_another_call(self):
        modem = self.modem()
        for k in range(4):
            modem.put(2000, [97])
        self.assertEqual(modem.sender.string, 259)
        self.assertEqual(modem.sender.tree.next_node, 260)

    def test_a_refusal_changes_nothing(self):
        first = list(range(250)) + [0, 1, 2, 0, 1]
        second = [2, 3, 4, 250, 251, 252, 0, 1, 2, 3]
        one = self.modem()
        other = self.modem()
        self.assertEqual(one.put(2000, first), other.put(2000, first))
        self.assertEqual(one.put(0, second), [-5])
        self.assertEqual(one.put(16777217, second), [-2])
        self.assertEqual(one.put(2000, second), other.put(2000, second))
        self.assertEqual(one.flush(2000), other.flush(2000))

    def test_edges_of_most(self):
        self.assertEqual(self.modem().put(16777216, [97, 98]), came([100]))
        self.assertEqual(self.modem().put(16777217, [97, 98]), [-2])


if __name__ == "__main__":
    unittest.main()
