"""Point 7: chains that let out a wanted list."""

import itertools
import unittest

from siftchain.cells import Chain
from siftchain.errors import InvalidRow, TooMany
from siftchain.tracing import chain_for
from tests.model import RULES, labels_for, run
from tests.values import BIG, HUGE, NO_INTEGERS

ROWS = ([5, 3, 4, 1], [1, 2, 3, 4, 5, 6], [2, 2, 1, 1, 3], [4, -1, 0, 4, 7, -1, 3, 2], [1, 1, 1])


def text_for(row, outs):
    """Return the text of the chain that is found, or None."""
    chain = chain_for(row, outs)
    return None if chain is None else chain.text


class FindingTest(unittest.TestCase):
    def check(self, row, outs):
        labels = labels_for(row, outs)
        with self.subTest(row=row, outs=outs):
            self.assertEqual(text_for(row, outs), None if labels is None else " ".join(labels))

    def test_what_chains_let_out(self):
        for row in ROWS:
            for many in (1, 2, 3):
                for labels in itertools.product(RULES, repeat=many):
                    self.check(row, run(labels, row)[1])

    def test_what_other_chains_let_out(self):
        for row in ROWS:
            for text in ("near:2", "near:0 near:3", "less near:1", "near:4 last near:2"):
                self.check(row, run(text.split(" "), row)[1])

    def test_all_lists(self):
        for row in ([1, 2, 3], [2, 1, 2], [3, 3, 1]):
            for length in range(5):
                for outs in itertools.product((None, 1, 2, 3), repeat=length):
                    self.check(row, list(outs))

    def test_five_cells(self):
        row = [4, 8, 1, 9, 3, 7, 2, 6, 5, 0, 8, 4]
        for text in ("less greater last first less", "first first first first first", "less less less less less",
                     "last last last last last", "greater less greater less greater"):
            outs = run(text.split(" "), row)[1]
            self.check(row, outs)
            found = chain_for(row, outs)
            self.assertEqual(len(found), 5)
            self.assertEqual(found(row)[0], outs)

    def test_first_by_the_labels(self):
        self.assertEqual(text_for([7, 7], [None, 7]), "first")
        self.assertEqual(text_for([1, 2], [None, 1]), "greater")
        self.assertEqual(text_for([1, 2, 1], [None, 1, 2]), "last")
        self.assertEqual(text_for([2, 1, 2], [None, 2, 1]), "last")
        self.assertEqual(text_for([2, 1, 2], [None, 2, 2]), "less")
        self.assertEqual(text_for([3, 3, 3], [None, None, 3]), "first first")

    def test_row_no_longer_than_the_chain(self):
        self.assertEqual(text_for([5], [None]), "first")
        self.assertEqual(text_for([5, 4, 3], [None, None, None]), "first first first")
        self.assertEqual(text_for([5, 4, 3, 2, 1], [None] * 5), "first first first first first")

    def test_long_rows(self):
        row = [(number * 7919 + 300) % 1009 - 500 for number in range(1000)]
        outs = run(["last", "less", "greater"], row)[1]
        self.check(row, outs)
        self.assertEqual(chain_for(row, outs)(row)[0], outs)
        outs[999] += 1
        self.assertIsNone(chain_for(row, outs))

    def test_kinds_of_values(self):
        self.assertIsInstance(chain_for([5], [None]), Chain)

    def test_arguments_are_not_modified(self):
        row, outs = [5, 3, 4, 1], [None, None, 5, 4]
        self.assertEqual(chain_for(row, outs), chain_for(row, outs))
        self.assertEqual([row, outs], [[5, 3, 4, 1], [None, None, 5, 4]])


class NoneTest(unittest.TestCase):
    def check(self, row, outs):
        with self.subTest(row=row, outs=outs):
            self.assertIsNone(chain_for(row, outs))

    def test_no_such_chain(self):
        self.check([1, 2], [None, 3])
        self.check([1, 2, 3], [None, 1, 1])
        self.check([5, 3, 4, 1], [None, None, 4, 5])
        self.check([0, 5, -5, 9], run(["near:4"], [0, 5, -5, 9])[1])

    def test_lists_without_none(self):
        self.check([], [])
        self.check([1, 2], [1, 2])
        self.check([1, 2], [])
        self.check([], [1])

    def test_none_at_the_wrong_place(self):
        self.check([1, 2], [1, None])
        self.check([1, 2, 3], [None, 1, None])
        self.check([1, 2, 3], [1, None, None])

    def test_another_length(self):
        self.check([1, 2], [None])
        self.check([1, 2], [None, 2, 2])
        self.check([1, 2], [None, None, None])
        self.check([1], [None, 1])

    def test_an_empty_row(self):
        self.check([], [None])
        self.check([], [None] * 5)
        self.check([], [None, 1])

    def test_entries_that_are_no_numbers(self):
        """Only a value that is no list is said to be an error: no chain lets these out."""
        for wrong in [value for value in NO_INTEGERS if value is not None] + [BIG + 1, HUGE]:
            self.check([1, 2], [None, wrong])
            self.check([1, 0, 1], [None, wrong, 1])
            self.check([1, 0, 1], [None, 1, wrong])
            self.check([1, 2], [wrong, None])
            self.check([1, 2], [wrong])
            self.check([1], [wrong])

    def test_true_and_false_are_no_numbers(self):
        self.assertEqual(text_for([0, 1], [None, 1]), "first")
        self.check([0, 1], [None, True])
        self.check([1, 0], [None, False])
        self.check([1, 0, 1], [None, 0, True])


class ErrorsTest(unittest.TestCase):
    def check_index(self, row, outs, index):
        with self.subTest(row=row, outs=outs):
            with self.assertRaises(InvalidRow) as caught:
                chain_for(row, outs)
            self.assertEqual(caught.exception.index, index)

    def test_wrong_rows(self):
        for wrong in NO_INTEGERS + (BIG + 1, -BIG - 1, HUGE):
            self.check_index([wrong], [None], 0)
            self.check_index([1, 2, wrong, None], [None], 2)
        self.check_index([1] * 1001, [None], 1000)
        self.assertEqual(text_for([1] * 1000, [None] + [1] * 999), "first")
        self.assertEqual(text_for([BIG, -BIG], [None, -BIG]), "first")

    def test_no_lists_at_both_places(self):
        for wrong in (True, False, None, 0, 5, "", "12", (), (1, 2), (None,)):
            self.check_index(wrong, [None], 0)
            self.check_index([1, 2], wrong, 0)
            self.check_index([], wrong, 0)

    def test_too_many(self):
        for many in (6, 7, 100):
            for outs in ([None] * many, [None] * many + [3], [3] + [None] * many):
                for row in ([], [1], [3] * len(outs)):
                    with self.subTest(many=many), self.assertRaises(TooMany):
                        chain_for(row, outs)
        self.assertEqual(text_for([3] * 6, [None] * 5 + [3]), "first first first first first")

    def test_the_row_comes_first(self):
        self.check_index([1, "a"], None, 1)
        self.check_index([1, 2, "a"], [None] * 6, 2)
        self.check_index(None, [None] * 6, 0)

    def test_failing_changes_nothing(self):
        row, outs = [1, 2], [None] * 6
        with self.assertRaises(TooMany):
            chain_for(row, outs)
        self.assertEqual([row, outs], [[1, 2], [None] * 6])
        self.assertEqual(text_for([5, 3, 4, 1], [None, None, 5, 4]), "last less")


if __name__ == "__main__":
    unittest.main()
