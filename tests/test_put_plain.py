import unittest

from helper import ask, begin, came, put


class PlainBytes(unittest.TestCase):
    def test_bytes_that_are_not_the_escape_go_as_they_are(self):
        row = [1, 2, 255, 51, 97, 97, 97]
        self.assertEqual(ask(begin(), put(row))[1], came(row))

    def test_no_bytes(self):
        self.assertEqual(ask(begin(), put([]), put([], most=0)), [[0], [0], [0]])

    def test_the_escape_goes_as_itself_and_one(self):
        self.assertEqual(ask(begin(), put([0]))[1], came([0, 1]))
        self.assertEqual(ask(begin(), put([7, 0, 7]))[1], came([7, 0, 1, 7]))

    def test_what_was_the_escape_is_one_no_more(self):
        self.assertEqual(ask(begin(), put([0, 0, 0]))[1], came([0, 1, 0, 0]))

    def test_the_escape_goes_its_way_by_51_modulo_256(self):
        way = [0, 51, 102, 153, 204, 255, 50, 101]
        doubled = [0, 1, 51, 1, 102, 1, 153, 1, 204, 1, 255, 1, 50, 1, 101, 1]
        self.assertEqual(ask(begin(), put(way))[1], came(doubled))

    def test_the_escape_comes_round_after_256(self):
        way = [k * 51 % 256 for k in range(257)]
        doubled = [octet for byte in way for octet in (byte, 1)]
        self.assertEqual(way[256], 0)
        self.assertEqual(ask(begin(), put(way))[1], came(doubled))

    def test_the_escape_is_kept_from_call_to_call(self):
        given = ask(begin(), put([0]), put([51]), put([0, 51]), put([102]))
        self.assertEqual(given[1:], [came([0, 1]), came([51, 1]), came([0, 51]), came([102, 1])])

    def test_every_byte_once(self):
        expected = list(range(256))
        for escape in (255, 204, 153, 102, 51, 0):
            expected.insert(escape + 1, 1)
        self.assertEqual(ask(begin(), put(list(range(256))))[1], came(expected))


class PlainRefusals(unittest.TestCase):
    def test_edges_of_most(self):
        self.assertEqual(ask(begin(), put([7], most=16777216))[1], came([7]))
        self.assertEqual(ask(begin(), put([7], most=16777217))[1], [-2])
        self.assertEqual(ask(begin(), put([], most=16777217))[1], [-2])
        self.assertEqual(ask(begin(), put([7], most=4294967295))[1], [-2])

    def test_as_many_octets_as_most_and_one_more(self):
        self.assertEqual(ask(begin(), put([7, 8, 9], most=3))[1], came([7, 8, 9]))
        self.assertEqual(ask(begin(), put([7, 8, 9], most=2))[1], [-5])
        self.assertEqual(ask(begin(), put([7], most=0))[1], [-5])

    def test_octets_are_counted_not_bytes(self):
        self.assertEqual(ask(begin(), put([0, 51], most=4))[1], came([0, 1, 51, 1]))
        self.assertEqual(ask(begin(), put([0, 51], most=3))[1], [-5])

    def test_a_refusal_changes_nothing(self):
        for most, number in ((1, -5), (3, -5), (16777217, -2)):
            given = ask(begin(), put([0, 51], most=most), put([0, 51, 102]))
            self.assertEqual(given[1:], [[number], came([0, 1, 51, 1, 102, 1])])

    def test_minus_2_goes_ahead_of_minus_5(self):
        self.assertEqual(ask(begin(), put([0] * 5000, most=16777217))[1], [-2])


if __name__ == "__main__":
    unittest.main()
