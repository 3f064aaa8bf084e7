"""Point 7: rows that tell two chains apart."""

import itertools
import unittest

from siftchain.cells import Chain
from siftchain.errors import InvalidRow, TooMany
from siftchain.tracing import telling_row
from tests.model import telling
from tests.values import BIG, HUGE, NO_INTEGERS

LABELS = ("first", "last", "less", "greater", "near:2")


def told(one, other, numbers):
    return telling_row(Chain.parse(one), Chain.parse(other), numbers)


def texts(many):
    return [" ".join(labels) for labels in itertools.product(LABELS, repeat=many)]


class TellingTest(unittest.TestCase):
    def check(self, one, other, numbers, longest):
        """Compare with all rows up to a length: a longer one must be no row at all."""
        wanted = telling(one.split(" "), other.split(" "), numbers, longest)
        found = told(one, other, numbers)
        with self.subTest(one=one, other=other, numbers=numbers):
            if wanted is None:
                self.assertTrue(found is None or len(found) > longest)
            else:
                self.assertEqual(found, wanted)

    def test_all_chains_of_one_and_two_cells(self):
        for one, other in itertools.product(texts(1) + texts(2), repeat=2):
            self.check(one, other, [3, 1], 4)

    def test_more_numbers(self):
        for one, other in itertools.product(texts(1), repeat=2):
            for numbers in ([1, 2, 3], [5, -2, 2, 0], [4, 2, 4, 2], [3, 1, 2]):
                self.check(one, other, numbers, 4)

    def test_longer_chains(self):
        pairs = [("less less less", "less less last"), ("first first last", "first last last"),
                 ("near:2 near:1 less", "near:1 near:2 less"), ("greater less last less", "greater less less less"),
                 ("first first first first", "first first first last"), ("less last", "less last first")]
        for one, other in pairs:
            for numbers in ([1, 2], [2, 4, 0], [3, 1, 2, 0]):
                self.check(one, other, numbers, 6)
                self.check(other, one, numbers, 6)

    def test_equal_chains(self):
        for text in texts(1) + texts(2) + ["less greater near:2 last", "last last last last"]:
            self.assertIsNone(told(text, text, [1, 2, 3, 4]))

    def test_chains_that_no_row_tells_apart(self):
        self.assertIsNone(told("less", "near:0", [1, 2, 3]))
        self.assertIsNone(told("greater", "near:9", [3, 2, 1, 0]))
        self.assertIsNone(told("less", "greater", [7]))
        self.assertIsNone(told("less last", "first greater", [7, 7]))
        self.assertEqual(told("less", "near:0", [2, 1, -3]), [-3, 1])

    def test_unlike_lengths(self):
        self.assertEqual(told("less", "less less", [5]), [5, 5])
        self.assertEqual(told("less less less less", "less", [5, 3]), [3, 3])
        self.assertEqual(told("last last last", "last last last last", [9, 8]), [8, 8, 8, 8])

    def test_shortest_comes_before_first(self):
        self.assertEqual(told("less", "first", [1, 2]), [2, 1])
        self.assertEqual(told("last first", "last last", [1, 2]), [1, 2, 1])
        self.assertEqual(told("greater", "last", [1, 2]), [2, 1])

    def test_no_numbers(self):
        self.assertIsNone(told("less", "greater", []))
        self.assertIsNone(told("less", "less less", []))

    def test_numbers_twice_and_in_any_order(self):
        for numbers in ([2, 1], [1, 2, 1], [2, 2, 1, 1], [1, 1, 1, 2]):
            self.assertEqual(told("less", "greater", numbers), [1, 2])

    def test_four_cells_and_four_numbers(self):
        self.assertEqual(told("less less less less", "less less less greater", [4, 3, 2, 1]), [1, 1, 1, 1, 2])
        self.assertEqual(told("greater greater last last", "greater greater last less", [1, 2, 3, 4]),
                         telling("greater greater last last".split(" "), "greater greater last less".split(" "),
                                 [1, 2, 3, 4], 6))

    def test_arguments_and_results_are_apart(self):
        numbers = [2, 1]
        chain, other = Chain.parse("less"), Chain.parse("greater")
        found = telling_row(chain, other, numbers)
        self.assertIsInstance(found, list)
        found.append(9)
        self.assertEqual(numbers, [2, 1])
        self.assertEqual(telling_row(chain, other, numbers), [1, 2])
        self.assertEqual([chain.text, other.text], ["less", "greater"])


class ErrorsTest(unittest.TestCase):
    def check_index(self, numbers, index):
        with self.subTest(numbers=numbers):
            with self.assertRaises(InvalidRow) as caught:
                told("less", "greater", numbers)
            self.assertEqual(caught.exception.index, index)

    def check_too_many(self, one, other, numbers):
        with self.subTest(one=one, other=other, numbers=numbers), self.assertRaises(TooMany):
            told(one, other, numbers)

    def test_no_lists(self):
        for numbers in (True, False, None, 0, 5, "", "12", (), (1, 2)):
            self.check_index(numbers, 0)

    def test_wrong_numbers(self):
        for wrong in NO_INTEGERS + (BIG + 1, -BIG - 1, HUGE):
            self.check_index([wrong], 0)
            self.check_index([1, 2, wrong], 2)
            self.check_index([1, wrong, wrong, 2], 1)
        self.assertEqual(told("less", "greater", [BIG, -BIG]), [-BIG, BIG])

    def test_too_many_numbers(self):
        for numbers in ([1, 2, 3, 4, 5], [1] * 5, [1] * 1000):
            self.check_too_many("less", "greater", numbers)
            self.check_too_many("less", "less", numbers)

    def test_wrong_numbers_come_before_too_many(self):
        self.check_index([1, 2, 3, 4, "a"], 4)
        self.check_index([None, 2, 3, 4, 5], 0)
        self.check_index([1] * 1001, 1000)

    def test_too_many_cells_at_both_places(self):
        four, five, eight = (" ".join(["less"] * many) for many in (4, 5, 8))
        self.assertIsNone(told(four, four, [1, 2]))
        for numbers in ([], [1, 2]):
            self.check_too_many(five, "less", numbers)
            self.check_too_many("less", five, numbers)
            self.check_too_many(five, five, numbers)
            self.check_too_many(eight, four, numbers)
            self.check_too_many(four, eight, numbers)

    def test_chains_are_checked_before_numbers(self):
        five = "less less less less less"
        for numbers in (None, ["a"], [1] * 5, [1] * 1001):
            self.check_too_many(five, "less", numbers)
            self.check_too_many("less", five, numbers)

    def test_failing_changes_nothing(self):
        numbers = [1, 2, 3, 4, 5]
        self.check_too_many("less", "greater", numbers)
        self.assertEqual(numbers, [1, 2, 3, 4, 5])
        self.assertEqual(told("less", "greater", [1, 2]), [1, 2])


if __name__ == "__main__":
    unittest.main()
