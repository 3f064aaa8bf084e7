"""Point 6: rows that can have come in."""

import itertools
import unittest

from siftchain.cells import Chain
from siftchain.errors import InvalidRow, TooMany
from siftchain.tracing import rows_behind
from tests.model import holdings, rows_to, run
from tests.values import BIG, HUGE, NO_INTEGERS

LABELS = ("first", "last", "less", "greater", "near:2")
WRONG = tuple(value for value in NO_INTEGERS if value is not None) + (BIG + 1, -BIG - 1, HUGE)
MIXED = (
    "less",
    "near:1",
    "less greater",
    "near:0 near:3",
    "last near:2 less",
    "near:-3 first greater last",
    "near:1 near:-2 near:4",
    "less less less less",
    "greater last near:0 first less",
)


def chain_of(labels):
    return Chain.parse(" ".join(labels))


class AgainstAllRowsTest(unittest.TestCase):
    def check(self, labels, rows):
        for (held, outs), wanted in rows_to(labels, rows).items():
            found = rows_behind(chain_of(labels), held, list(outs))
            if found != (len(wanted), min(wanted)):
                self.fail(f"{labels} {held} {outs}: {found}")

    def test_all_orders_of_unlike_numbers(self):
        for text in MIXED:
            with self.subTest(text=text):
                self.check(text.split(" "), itertools.permutations([-9, -4, -1, 2, 5, 12]))
                self.check(text.split(" "), itertools.permutations([-2, -1, 0, 1, 2, 3]))

    def test_all_orders_with_equal_numbers(self):
        for text in MIXED:
            with self.subTest(text=text):
                self.check(text.split(" "), set(itertools.permutations([0, 0, 2, 2, 2, 4, 5])))

    def test_all_rows(self):
        for many in (1, 2):
            for labels in itertools.product(LABELS, repeat=many):
                for length in range(6):
                    with self.subTest(labels=labels, length=length):
                        self.check(labels, itertools.product((1, 2, 3), repeat=length))

    def test_all_that_can_be_asked(self):
        """Also what no row leads to."""
        values = (1, 2, 3)
        for labels in itertools.product(LABELS, repeat=2):
            chain = chain_of(labels)
            for length in range(4):
                led = rows_to(labels, itertools.product(values, repeat=length))
                for held in holdings(2, values):
                    for outs in itertools.product(values + (None,), repeat=length):
                        rows = led.get((held, outs), [])
                        wanted = (len(rows), min(rows) if rows else None)
                        if rows_behind(chain, held, list(outs)) != wanted:
                            self.fail(f"{labels} {held} {outs}")


class EdgesTest(unittest.TestCase):
    def test_no_ticks(self):
        for text in ("less", "last first greater"):
            chain = Chain.parse(text)
            self.assertEqual(rows_behind(chain, chain.empty, []), (1, []))
            self.assertEqual(rows_behind(chain, (5,) + chain.empty[1:], []), (0, None))

    def test_none_in_wrong_places(self):
        chain = Chain.parse("less less")
        self.assertEqual(rows_behind(chain, (1, 2), [None, 5, None]), (0, None))
        self.assertEqual(rows_behind(chain, (1, 2), [None, None, None]), (0, None))
        self.assertEqual(rows_behind(chain, (1, 2), [5, None, None]), (0, None))
        self.assertEqual(rows_behind(chain, (1, 2), [None]), (0, None))
        self.assertEqual(rows_behind(chain, (1, None), [None, None]), (0, None))
        self.assertEqual(rows_behind(chain, (1, None), [None]), (1, [1]))
        self.assertEqual(rows_behind(chain, (None, None), [None, None, 5]), (0, None))

    def test_first_in_list_order(self):
        self.assertEqual(rows_behind(Chain.parse("less"), (3,), [None, 5, 9]), (2, [3, 5, 9]))
        self.assertEqual(rows_behind(Chain.parse("greater"), (9,), [None, 5, 3]), (2, [5, 9, 3]))
        self.assertEqual(rows_behind(Chain.parse("less"), (-3,), [None, 5, -2]), (4, [-3, 5, -2]))
        self.assertEqual(rows_behind(Chain.parse("last"), (3,), [None, 5, 9]), (1, [5, 9, 3]))

    def test_thirty_ticks_of_one_cell(self):
        down = list(range(30, 0, -1))
        outs = [None] + down[:-1]
        self.assertEqual(rows_behind(Chain.parse("last"), (1,), outs), (1, down))
        self.assertEqual(rows_behind(Chain.parse("first"), (1,), outs), (1, [1] + down[:-1]))
        self.assertEqual(rows_behind(Chain.parse("less"), (1,), outs), (2 ** 29, [1] + down[:-1]))
        self.assertEqual(rows_behind(Chain.parse("greater"), (1,), outs), (0, None))

    def test_thirty_ticks_of_eight_cells(self):
        outs = [None] * 8 + list(range(30, 8, -1))
        held = (1, 2, 3, 4, 5, 6, 7, 8)
        many, row = rows_behind(Chain.parse(" ".join(["less"] * 8)), held, outs)
        # The first eight numbers come in any order, then each of nine can be the next one.
        self.assertEqual(many, 40320 * 9 ** 22)
        self.assertEqual(row, list(held) + outs[8:])

    def test_thirty_ticks_of_mixed_cells(self):
        numbers = [(number * 17) % 31 - 15 for number in range(30)]
        for text in ("less last near:2 greater", "near:5 near:-5 first", "greater less greater less less"):
            helds, outs = run(text.split(" "), numbers)
            many, row = rows_behind(Chain.parse(text), helds[-1], outs)
            with self.subTest(text=text):
                self.assertGreaterEqual(many, 1)
                self.assertLessEqual(row, numbers)
                self.assertEqual(run(text.split(" "), row), (run(text.split(" "), row)[0], outs))
                self.assertEqual(run(text.split(" "), row)[0][-1], helds[-1])

    def test_equal_numbers_are_one_row(self):
        for text in ("less less", "last last", "greater near:2 first"):
            chain = Chain.parse(text)
            many = len(chain)
            self.assertEqual(rows_behind(chain, (4,) * many, [None] * many + [4] * 20), (1, [4] * (many + 20)))

    def test_limits_of_numbers(self):
        self.assertEqual(rows_behind(Chain.parse("less"), (-BIG,), [None, BIG]), (2, [-BIG, BIG]))

    def test_kinds_of_values(self):
        found = rows_behind(Chain.parse("less"), (3,), [None, 5])
        self.assertIsInstance(found, tuple)
        self.assertIsInstance(found[1], list)

    def test_arguments_and_results_are_apart(self):
        chain = Chain.parse("less")
        outs = [None, 5]
        found = rows_behind(chain, (3,), outs)
        self.assertEqual(outs, [None, 5])
        found[1].append(9)
        self.assertEqual(rows_behind(chain, (3,), outs), (2, [3, 5]))
        empty = rows_behind(chain, (None,), [])
        empty[1].append(9)
        self.assertEqual(rows_behind(chain, (None,), []), (1, []))


class ErrorsTest(unittest.TestCase):
    def check_index(self, held, outs, index):
        with self.subTest(held=held, outs=outs):
            with self.assertRaises(InvalidRow) as caught:
                rows_behind(Chain.parse("less less"), held, outs)
            self.assertEqual(caught.exception.index, index)

    def test_wrong_tuples(self):
        for held, index in (([1, 2], 0), (None, 0), ((), 0), ((1,), 1), ((1, 2, 3), 2), ((None, 1), 1),
                            ((1, True), 1), (("a", 1), 0), ((1, BIG + 1), 1), ((1, [1]), 1)):
            self.check_index(held, [None, None, 5], index)

    def test_wrong_entries(self):
        for wrong in WRONG:
            self.check_index((1, 2), [wrong], 0)
            self.check_index((1, 2), [None, None, wrong], 2)
            self.check_index((1, 2), [None, wrong, 5, wrong], 1)
            self.check_index((1, 2), [None, None] + [5] * 20 + [wrong], 22)

    def test_no_lists(self):
        for outs in (True, False, None, 0, 5, "", "12", (), (None, 5)):
            self.check_index((1, 2), outs, 0)

    def test_the_tuple_comes_before_the_list(self):
        self.check_index((1, "a"), ["a"], 1)
        self.check_index((1,), None, 1)
        self.check_index((1, 2, 3), [5] * 1001, 2)
        self.check_index((1, None, 3), [None] * 31, 2)

    def test_too_many(self):
        for many in (31, 32, 999, 1000):
            for outs in ([None] * many, [5] * many, [None, None] + [5] * (many - 2)):
                with self.subTest(many=many), self.assertRaises(TooMany):
                    rows_behind(Chain.parse("less less"), (1, 2), outs)

    def test_wrong_entries_come_before_too_many(self):
        self.check_index((1, 2), [None] * 30 + ["a"], 30)
        self.check_index((1, 2), [True] + [None] * 30, 0)
        self.check_index((1, 2), [5] * 999 + [False], 999)
        self.check_index((1, 2), [5] * 1001, 1000)
        self.check_index((1, 2), [5] * 1000 + ["a", "b"], 1000)
        self.check_index((1, 2), [5] * 500 + ["a"] + [5] * 800, 500)

    def test_thirty_are_not_too_many(self):
        self.assertEqual(rows_behind(Chain.parse("last last"), (1, 1), [None, None] + [1] * 28), (1, [1] * 30))
        self.assertEqual(rows_behind(Chain.parse("last last"), (1, 1), [None] * 30), (0, None))

    def test_failing_changes_nothing(self):
        outs = [None, None, "a"]
        self.check_index((1, 2), outs, 2)
        self.assertEqual(outs, [None, None, "a"])
        self.assertEqual(rows_behind(Chain.parse("less less"), (1, 2), [None, None]), (2, [1, 2]))


if __name__ == "__main__":
    unittest.main()
