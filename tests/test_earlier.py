"""Point 6: what can have come in with one tick."""

import itertools
import unittest

from siftchain.cells import Chain, Less
from siftchain.errors import InvalidRow
from siftchain.tracing import earlier
from tests.model import before_ticks, holdings
from tests.values import BIG, HUGE, NO_INTEGERS

LABELS = ("first", "last", "less", "greater", "near:2")
LONG = (
    "less less less less",
    "greater less greater less",
    "near:2 last first near:1",
    "last greater last near:3",
    "first less near:2 greater",
    "first last less greater near:2",
    "near:2 near:1 near:3 near:2 near:0",
    "less less less less less",
    "greater last near:2 less first",
    "last last last last last",
)
WRONG = tuple(value for value in NO_INTEGERS if value is not None) + (BIG + 1, -BIG - 1, HUGE)


def chains():
    """Yield the labels of all chains up to three cells, and of some of four and five."""
    for many in (1, 2, 3):
        yield from itertools.product(LABELS, repeat=many)
    for text in LONG:
        yield tuple(text.split(" "))


class EarlierTest(unittest.TestCase):
    def check_all(self, labels, values):
        """Compare for each holding, also those that no row leads to, and each thing that can come out."""
        chain = Chain.parse(" ".join(labels))
        before = before_ticks(labels, values)
        for held in holdings(len(labels), values):
            for out in values + (None,):
                found = earlier(chain, held, out)
                if found != sorted(before.get((held, out), [])):
                    self.fail(f"{labels} {held} {out}: {found}")

    def test_against_each_number_into_each_holding(self):
        for labels in chains():
            with self.subTest(labels=labels):
                self.check_all(labels, (1, 2, 3))

    def test_with_more_numbers(self):
        for many in (1, 2):
            for labels in itertools.product(LABELS, repeat=many):
                with self.subTest(labels=labels):
                    self.check_all(labels, (-BIG, -1, 0, 2, 4, 5, BIG))

    def test_all_empty(self):
        for text in ("less", "last first", "less less less"):
            chain = Chain.parse(text)
            self.assertEqual(earlier(chain, chain.empty, None), [])
            self.assertEqual(earlier(chain, chain.empty, 4), [])

    def test_filling(self):
        chain = Chain.parse("less less")
        self.assertEqual(earlier(chain, (4, None), None), [(4, (None, None))])
        self.assertEqual(earlier(chain, (4, None), 4), [])
        self.assertEqual(earlier(chain, (3, 4), None), [(3, (4, None)), (4, (3, None))])
        self.assertEqual(earlier(chain, (4, 3), None), [])

    def test_eight_cells(self):
        chain = Chain.parse(" ".join(["less"] * 8))
        found = earlier(chain, (1, 2, 3, 4, 5, 6, 7, 8), 9)
        self.assertEqual(len(found), 256)
        self.assertEqual(found, sorted(found))
        self.assertEqual(len(set(found)), 256)
        self.assertEqual(found[0], (1, (2, 3, 4, 5, 6, 7, 8, 9)))
        for number, before in found:
            self.assertEqual(chain.step(before, number), ((1, 2, 3, 4, 5, 6, 7, 8), 9))

    def test_holdings_that_no_row_leads_to_count(self):
        self.assertEqual(earlier(Chain.parse("less less"), (1, 3), 2), [])
        self.assertEqual(earlier(Chain.parse("less less"), (1, 2), 3),
                         [(1, (2, 3)), (1, (3, 2)), (2, (1, 3)), (3, (1, 2))])
        self.assertEqual(earlier(Chain.parse("less first"), (3, 1), 5), [(3, (5, 1)), (5, (3, 1))])
        self.assertEqual(earlier(Chain.parse("last less"), (9, 2), 4), [(9, (2, 4)), (9, (4, 2))])

    def test_no_tuple_twice(self):
        for label in LABELS:
            chain = Chain.parse(" ".join([label] * 3))
            self.assertEqual(earlier(chain, (2, 2, 2), 2), [(2, (2, 2, 2))])
            self.assertEqual(earlier(chain, (2, 2, None), None), [(2, (2, None, None))])

    def test_equally_near(self):
        self.assertEqual(earlier(Chain.parse("near:0"), (3,), -3), [(-3, (3,))])
        self.assertEqual(earlier(Chain.parse("near:0"), (-3,), 3), [(3, (-3,))])
        self.assertEqual(earlier(Chain.parse("near:0"), (2,), -3), [(-3, (2,)), (2, (-3,))])

    def test_returned_lists_are_new(self):
        chain = Chain.parse("less less")
        found = earlier(chain, (1, 3), 4)
        wanted = list(found)
        found.append(7)
        self.assertEqual(earlier(chain, (1, 3), 4), wanted)

    def test_kinds_of_values(self):
        found = earlier(Chain(Less()), (1,), 4)
        self.assertIsInstance(found, list)
        for pair in found:
            self.assertIsInstance(pair, tuple)
            self.assertIsInstance(pair[1], tuple)


class HeldTest(unittest.TestCase):
    def check_index(self, text, held, index, out=None):
        with self.subTest(text=text, held=held):
            with self.assertRaises(InvalidRow) as caught:
                earlier(Chain.parse(text), held, out)
            self.assertEqual(caught.exception.index, index)

    def test_no_tuples(self):
        for held in (True, False, None, 0, 5, "", "12", [], [1], [1, 2], [None, None]):
            self.check_index("less less", held, 0)
            self.check_index("less", held, 0, 5)

    def test_too_short(self):
        self.check_index("less", (), 0)
        self.check_index("less less less", (), 0)
        self.check_index("less less less", (1,), 1)
        self.check_index("less less less", (1, 2), 2, 5)
        self.check_index("less less less", (1, None), 2)
        self.check_index("less less less", (None, None), 2)

    def test_too_long(self):
        self.check_index("less", (1, 2), 1)
        self.check_index("less less", (1, 2, 3, 4), 2, 5)
        self.check_index("less less", (None, None, None), 2)
        self.check_index("less less", (1, 2, "a"), 2)
        self.check_index(" ".join(["less"] * 8), (1,) * 9, 8)

    def test_a_number_behind_none(self):
        self.check_index("less less", (None, 1), 1)
        self.check_index("less less less", (1, None, 2), 2)
        self.check_index("less less less", (None, 1, 2), 1)
        self.check_index("less less less", (None, None, 0), 2)
        self.check_index("less", (None, 1), 1)
        self.check_index("less less less", (None, 1), 1)

    def test_wrong_entries_at_each_place(self):
        for wrong in WRONG:
            for many in (1, 2, 3, 5):
                for place in range(many):
                    held = [4] * many
                    held[place] = wrong
                    self.check_index(" ".join(["last"] * many), tuple(held), place)
                    held[place:] = [wrong] * (many - place)
                    self.check_index(" ".join(["last"] * many), tuple(held), place, 4)
                    held[:place] = [None] * place
                    self.check_index(" ".join(["last"] * many), tuple(held), place, 4)

    def test_the_first_wrong_one_counts(self):
        self.check_index("less less less", (1, "a", None, 2), 1)
        self.check_index("less less less", (1, None, 2, "a"), 2)
        self.check_index("less less less", (True,), 0)
        self.check_index("less less less", (1, "a"), 1)

    def test_limits(self):
        self.assertEqual(earlier(Chain.parse("less"), (-BIG,), BIG), [(-BIG, (BIG,)), (BIG, (-BIG,))])

    def test_failing_changes_nothing(self):
        chain = Chain.parse("less less")
        self.check_index("less less", (1, "a"), 1)
        with self.assertRaises(InvalidRow):
            earlier(chain, (1,), 4)
        self.assertEqual(chain.text, "less less")
        self.assertEqual(len(earlier(chain, (1, 3), 4)), 4)


if __name__ == "__main__":
    unittest.main()
