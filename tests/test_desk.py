import contextlib
import io
import unittest

from shortline.desk import answers


class Answers(unittest.TestCase):
    def test_one_call(self):
        self.assertEqual(answers([0, 512, 6]), [1, 0])

    def test_several_calls(self):
        calls = [0, 512, 6, 1, 100, 3, 7, 0, 8, 2, 100, 1, 100, 0, 0, 511, 6, 1, 1, 2, 51, 9, 1, 3, 2, 51, 9]
        expected = [1, 0, 5, 4, 7, 0, 1, 8, 1, 0, 1, 0, 1, -2, 1, -5, 4, 3, 51, 1, 9]
        self.assertEqual(answers(calls), expected)

    def test_a_refusal_is_its_number_alone(self):
        self.assertEqual(answers([0, 512, 6, 1, 16777217, 1, 7]), [1, 0, 1, -2])
        self.assertEqual(answers([0, 512, 6, 1, 0, 1, 7]), [1, 0, 1, -5])
        self.assertEqual(answers([0, 512, 6, 2, 16777217]), [1, 0, 1, -2])
        self.assertEqual(answers([0, 512, 6, 0, 0, 0]), [1, 0, 1, -2])

    def test_a_refused_row_is_gone_past(self):
        self.assertEqual(answers([0, 512, 6, 1, 16777217, 3, 2, 2, 2, 1, 9, 1, 5]), [1, 0, 1, -2, 2, 1, 5])

    def test_bytes_that_look_like_calls(self):
        self.assertEqual(answers([0, 512, 6, 1, 9, 4, 1, 2, 1, 2, 2, 9]), [1, 0, 5, 4, 1, 2, 1, 2, 1, 0])

    def test_all_calls(self):
        calls = [0, 512, 6, 3, 1, 9, 1, 9, 1, 97, 2, 9, 3, 0, 9, 4, 9, 5, 9, 4, 7, 0, 0, 100, 5, 9, 2, 2, 0]
        expected = [1, 0, 3, 2, 0, 0, 1, 0, 4, 3, 100, 2, 0, 3, 2, 0, 0, 3, 2, 0, 2, 2, 1, 7, 2, 1, 97]
        self.assertEqual(answers(calls), expected)

    def test_each_refusal(self):
        calls = [0, 512, 6, 3, 0, 9, 3, 2, 9, 3, 1, 1, 4, 1, 4, 16777217, 5, 9, 2, 0, 3, 5, 0, 1, 7, 5, 16777217, 1, 7]
        expected = [1, 0, 1, -3, 1, -2, 1, -5, 1, -5, 1, -2, 1, -1, 1, -5, 1, -2]
        self.assertEqual(answers(calls), expected)

    def test_400_calls(self):
        calls = [0, 512, 6] + [1, 2, 1, 0] * 399
        expected = [1, 0, 3, 2, 0, 1] + [2, 1, 0] * 398
        self.assertEqual(answers(calls), expected)

    def test_a_row_as_long_as_a_list_allows(self):
        row = [7] * (30000 - 6)
        self.assertEqual(answers([0, 512, 6, 1, 30000, len(row)] + row), [1, 0, len(row) + 1, len(row)] + row)

    def test_what_is_handed_in_is_as_it_was(self):
        calls = [0, 512, 6, 1, 100, 3, 0, 51, 8, 2, 100, 1, 0, 1, 5, 3, 1, 9, 1, 9, 1, 5, 3, 0, 9, 4, 9]
        calls += [5, 9, 3, 0, 1, 7, 5, 9, 5, 51, 0, 100, 2, 0, 5, 0, 2, 100, 2, 5, 9, 2, 0, 3]
        kept = list(calls)
        answers(calls)
        self.assertEqual(calls, kept)

    def test_what_comes_back_is_a_list_of_its_own(self):
        calls = [0, 512, 6, 1, 100, 2, 7, 8]
        given = answers(calls)
        given.clear()
        self.assertEqual(answers(calls), [1, 0, 3, 2, 7, 8])

    def test_the_same_list_twice_gives_the_same(self):
        calls = [0, 512, 6, 1, 100, 3, 0, 51, 102, 2, 100, 1, 1, 1, 153]
        expected = [1, 0, 7, 6, 0, 1, 51, 1, 102, 1, 1, 0, 1, -5]
        self.assertEqual(answers(calls), expected)
        self.assertEqual(answers(calls), expected)

    def test_another_list_between_changes_nothing(self):
        calls = [0, 512, 6, 1, 100, 1, 0]
        first = answers(calls)
        answers([0, 65536, 250, 1, 100, 2, 0, 51])
        self.assertEqual(answers(calls), first)

    def test_whole_numbers_in_a_list(self):
        calls = [0, 512, 6, 1, 100, 2, 0, 8, 2, 16777217, 3, 1, 9, 3, 0, 9, 4, 9, 5, 9, 7, 0, 1, 7, 51, 0, 100, 2]
        given = answers(calls)
        self.assertIs(type(given), list)
        self.assertTrue(all(type(number) is int for number in given))

    def test_nothing_is_printed(self):
        printed = io.StringIO()
        with contextlib.redirect_stdout(printed), contextlib.redirect_stderr(printed):
            answers([0, 512, 6, 1, 100, 2, 0, 8, 1, 0, 1, 8, 2, 0, 3, 1, 9, 4, 9, 5, 9, 2, 0, 3, 5, 9, 1, 7])
        self.assertEqual(printed.getvalue(), "")


if __name__ == "__main__":
    unittest.main()
