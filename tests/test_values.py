import itertools
import unittest

from indoubt.values import compare_values, is_storable, sorted_rows

HUGE = 10 ** 40

# In the order of values, written by hand.
ORDERED = (
    -HUGE - 1, -HUGE, -(2 ** 64), -5, -1, 0, 1, 2, 10, 2 ** 63, 2 ** 64, 2 ** 64 + 1, HUGE, HUGE + 1,
    "", " ", " a", "0", "10", "9", "A", "Z", "_", "a", "a ", "aa", "ab", "abc", "b", "z", "zz", "~",
)


class CompareValues(unittest.TestCase):
    def test_all_pairs_of_values_in_order(self):
        for (i, left), (j, right) in itertools.product(enumerate(ORDERED), repeat=2):
            expected = (i > j) - (i < j)
            with self.subTest(left=left, right=right):
                self.assertEqual(compare_values(left, right), expected)

    def test_every_integer_comes_before_every_string(self):
        self.assertEqual(compare_values(HUGE, ""), -1)
        self.assertEqual(compare_values("", HUGE), 1)
        self.assertEqual(compare_values(1, "0"), -1)

    def test_the_beginning_of_a_string_comes_first(self):
        self.assertEqual(compare_values("ada", "adam"), -1)
        self.assertEqual(compare_values("adam", "ada"), 1)
        self.assertEqual(compare_values("", "a"), -1)

    def test_equal_values(self):
        self.assertEqual(compare_values("ada", "ada"), 0)
        self.assertEqual(compare_values(HUGE, 10 ** 40), 0)


class SortedRows(unittest.TestCase):
    def test_integers_and_strings_at_the_same_place(self):
        rows = (("b", 1), (2, "x"), ("a", 1), (2, 7), (-3, "x"), ("", 0), (10, 0))
        expected = ((-3, "x"), (2, 7), (2, "x"), (10, 0), ("", 0), ("a", 1), ("b", 1))
        self.assertEqual(sorted_rows(rows), expected)

    def test_the_first_place_that_differs_counts(self):
        rows = ((1, 5, 9), (1, 4, 10), (0, 9, 9), (1, 5, 8))
        self.assertEqual(sorted_rows(rows), ((0, 9, 9), (1, 4, 10), (1, 5, 8), (1, 5, 9)))

    def test_doubled_rows(self):
        rows = ((2, "b"), (1, "a"), (2, "b"), (1, "a"), (2, "b"))
        self.assertEqual(sorted_rows(rows), ((1, "a"), (2, "b")))

    def test_no_rows_and_one_row(self):
        self.assertEqual(sorted_rows(()), ())
        self.assertEqual(sorted_rows(((4, "x"),)), ((4, "x"),))

    def test_integers_beyond_64_bits(self):
        rows = ((2 ** 64 + 1,), (2 ** 64,), (-(2 ** 70),), (2 ** 64,))
        self.assertEqual(sorted_rows(rows), ((-(2 ** 70),), (2 ** 64,), (2 ** 64 + 1,)))

    def test_all_orders_of_the_same_rows(self):
        expected = (("", 1), ("a", 1), ("a", "0"), ("aa", 0))
        for rows in itertools.permutations(expected):
            self.assertEqual(sorted_rows(rows), expected)

    def test_the_result_is_a_tuple_and_the_argument_is_unchanged(self):
        rows = ((2,), (1,))
        self.assertIs(type(sorted_rows(rows)), tuple)
        self.assertEqual(rows, ((2,), (1,)))


class IsStorable(unittest.TestCase):
    def test_integers(self):
        for value in (-1000000, -1, 0, 1, 1000000):
            self.assertIs(is_storable(value, "integer"), True)
        for value in (-1000001, 1000001, 2 ** 64, -(2 ** 64)):
            self.assertIs(is_storable(value, "integer"), False)

    def test_strings(self):
        for value in ("", "a", "12", "x" * 20):
            self.assertIs(is_storable(value, "string"), True)

    def test_the_other_kind(self):
        for value in ("", "a", "12"):
            self.assertIs(is_storable(value, "integer"), False)
        for value in (0, 12, 10 ** 30):
            self.assertIs(is_storable(value, "string"), False)


if __name__ == "__main__":
    unittest.main()
