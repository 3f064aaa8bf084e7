"""Point 4: rows through chains."""

import itertools
import unittest

from siftchain.cells import Chain, Less
from siftchain.errors import InvalidRow
from tests.model import run
from tests.values import BIG, HUGE, NO_INTEGERS

LABELS = ("first", "last", "less", "greater", "near:2", "near:-1")


class RowTest(unittest.TestCase):
    def check_index(self, row, index, text="less less"):
        with self.assertRaises(InvalidRow) as caught:
            Chain.parse(text)(row)
        self.assertEqual(caught.exception.index, index)

    def test_empty_row(self):
        self.assertEqual(Chain(Less())([]), ([], (None,)))
        self.assertEqual(Chain(*[Less()] * 8)([]), ([], (None,) * 8))

    def test_shorter_than_the_chain(self):
        for label in LABELS:
            chain = Chain.parse(" ".join([label] * 4))
            self.assertEqual(chain([6])[1][1:], (None, None, None))
            self.assertEqual(chain([6, 6, 6]), ([None, None, None], (6, 6, 6, None)))
            self.assertEqual(chain([6, 6, 6, 6]), ([None] * 4, (6, 6, 6, 6)))

    def test_numbers_go_on_in_the_same_tick(self):
        self.assertEqual(Chain.parse("last last last")([1, 2, 3, 4, 5]), ([None, None, None, 1, 2], (5, 4, 3)))
        self.assertEqual(Chain.parse("first first")([1, 2, 3, 4]), ([None, None, 3, 4], (1, 2)))
        self.assertEqual(Chain.parse("less greater")([5, 3, 4, 1]), ([None, None, 4, 3], (1, 5)))

    def test_against_the_model(self):
        rows = [[3, 1, 2, 5, -4, 2, 0], [0, 0, 0], [-3, 7], [4, 4, 1, 1, 3, 3, -2, 5, 9]]
        for many in (1, 2, 3):
            for labels in itertools.product(LABELS, repeat=many):
                for row in rows:
                    helds, outs = run(labels, row)
                    with self.subTest(labels=labels, row=row):
                        self.assertEqual(Chain.parse(" ".join(labels))(row), (outs, helds[-1]))

    def test_long_rows(self):
        row = [(number * 7919) % 1009 - 500 for number in range(1000)]
        labels = ["greater", "near:17", "last", "less", "first", "near:-40", "last", "greater"]
        helds, outs = run(labels, row)
        found = Chain.parse(" ".join(labels))(row)
        self.assertEqual(found, (outs, helds[-1]))
        self.assertEqual(len(found[0]), 1000)

    def test_kinds_of_values(self):
        outs, held = Chain(Less())([4, 2])
        self.assertIsInstance(outs, list)
        self.assertIsInstance(held, tuple)

    def test_limits_of_numbers(self):
        self.assertEqual(Chain(Less())([BIG, -BIG, 0]), ([None, BIG, 0], (-BIG,)))
        for wrong in (-BIG - 1, BIG + 1, -HUGE, HUGE):
            with self.subTest(wrong=wrong):
                self.check_index([wrong], 0)
                self.check_index([1, BIG, wrong, None], 2)

    def test_no_numbers(self):
        for wrong in NO_INTEGERS:
            with self.subTest(wrong=wrong):
                self.check_index([wrong], 0)
                self.check_index([5, wrong], 1)
                self.check_index([5, 5, 5, wrong, 5, wrong], 3)

    def test_superfluous_numbers(self):
        self.assertEqual(len(Chain(Less())([1] * 1000)[0]), 1000)
        self.check_index([1] * 1001, 1000)
        self.check_index([1] * 1000 + [None], 1000)
        self.check_index([1] * 1500, 1000)
        self.check_index([1] * 999 + [None, 1], 999)
        self.check_index([True] + [1] * 1000, 0)

    def test_no_lists(self):
        for row in (True, False, None, 0, 5, "", "12", (), (1, 2), ([1],)):
            with self.subTest(row=row):
                self.check_index(row, 0)

    def test_row_is_not_modified(self):
        row = [5, 3, 4, 1]
        chain = Chain(Less(), Less())
        chain(row)
        self.assertEqual(row, [5, 3, 4, 1])
        wrong = [5, 3, None]
        self.check_index(wrong, 2)
        self.assertEqual(wrong, [5, 3, None])

    def test_repeating_gives_the_same(self):
        chain = Chain.parse("less last")
        first = chain([5, 3, 4])
        self.assertEqual(chain.text, "less last")
        self.assertEqual(chain.empty, (None, None))
        first[0].append(9)
        self.assertEqual(chain([5, 3, 4]), ([None, None, 5], (3, 4)))
        with self.assertRaises(InvalidRow):
            chain([1, None])
        self.assertEqual(chain([5, 3, 4]), ([None, None, 5], (3, 4)))


if __name__ == "__main__":
    unittest.main()
