"""Point 5: rows that come again."""

import itertools
import unittest

from siftchain.cells import Chain
from siftchain.errors import InvalidNumber, InvalidRow
from siftchain.flows import count_out, find_cycle, first_unlike, held_after, nth_out
from tests.model import again, cycle
from tests.values import BIG, HUGE, NO_INTEGERS

LABELS = ("first", "last", "less", "greater", "near:2")
ROWS = ([4], [5, 3], [3, 5], [2, 2], [1, 3, 1], [0, 4, 2], [3, 1, 3, 1, 2], [-7, 2, 2, 9, -7, 4, 0])
LONG_TEXTS = (
    "last last last last last last last last",
    "less last greater last less last greater last",
    "near:3 greater last less first near:-4 last less",
    "less less less less less less less less",
    "greater less greater less near:0 near:1 near:2",
)
LONG_ROW = [5, -2, 5, 7, 0, 3, 3, -9, 8, 1, 7, -2]
TICKS = 150


def cases():
    """Yield small chains with short rows and long chains with a long one."""
    for many in (1, 2):
        for labels in itertools.product(LABELS, repeat=many):
            for row in ROWS:
                yield labels, row
    for text in LONG_TEXTS:
        for row in (LONG_ROW, LONG_ROW[::-1], [6] * 12, [1, 2, 1]):
            yield text.split(" "), row


def chain_of(labels):
    return Chain.parse(" ".join(labels))


def calls(row):
    """All functions with a row, each with other arguments that are right."""
    chain = Chain.parse("less less")
    return [
        lambda: nth_out(chain, row, 1),
        lambda: held_after(chain, row, 1),
        lambda: find_cycle(chain, row),
        lambda: count_out(chain, row, 1),
        lambda: first_unlike(chain, Chain.parse("last"), row),
    ]


class RowTest(unittest.TestCase):
    def check_index(self, row, index):
        for at, call in enumerate(calls(row)):
            with self.subTest(at=at, row=row):
                with self.assertRaises(InvalidRow) as caught:
                    call()
                self.assertEqual(caught.exception.index, index)

    def test_lengths(self):
        for many in (1, 2, 11, 12):
            for call in calls([1] * many):
                call()
        self.check_index([], 0)
        self.check_index([1] * 13, 12)
        self.check_index([1] * 12 + [None], 12)
        self.check_index([1] * 1001, 12)
        self.check_index([1] * 11 + [None, 1], 11)

    def test_wrong_numbers(self):
        for call in calls([-BIG, BIG]):
            call()
        for wrong in NO_INTEGERS + (-BIG - 1, BIG + 1, HUGE):
            self.check_index([wrong], 0)
            self.check_index([1, 2, wrong, None], 2)

    def test_no_lists(self):
        for row in (True, False, None, 0, 5, "", "12", (), (1, 2)):
            self.check_index(row, 0)

    def test_rows_are_not_modified(self):
        row = [5, 3, 4]
        for call in calls(row):
            call()
            self.assertEqual(row, [5, 3, 4])


class CountTest(unittest.TestCase):
    def test_number_beyond(self):
        chain = Chain.parse("less less")
        for number in NO_INTEGERS + (0, -1, -HUGE, HUGE + 1):
            with self.subTest(number=number), self.assertRaises(InvalidNumber):
                nth_out(chain, [5, 3], number)

    def test_ticks_beyond(self):
        chain = Chain.parse("less less")
        for ticks in NO_INTEGERS + (-1, -HUGE, HUGE + 1):
            with self.subTest(ticks=ticks):
                with self.assertRaises(InvalidNumber):
                    held_after(chain, [5, 3], ticks)
                with self.assertRaises(InvalidNumber):
                    count_out(chain, [5, 3], ticks)

    def test_the_row_is_checked_first(self):
        chain = Chain.parse("less less")
        for function in (nth_out, held_after, count_out):
            for row, index in (([], 0), ([5, None], 1), ([1] * 13, 12), (None, 0)):
                for number in (-1, None, True, HUGE + 1):
                    with self.subTest(function=function, row=row, number=number):
                        with self.assertRaises(InvalidRow) as caught:
                            function(chain, row, number)
                        self.assertEqual(caught.exception.index, index)


class AgainstTheModelTest(unittest.TestCase):
    def test_find_cycle(self):
        for labels, row in cases():
            with self.subTest(labels=labels, row=row):
                self.assertEqual(find_cycle(chain_of(labels), row), cycle(labels, row, TICKS))

    def test_held_after(self):
        for labels, row in cases():
            helds, outs = again(labels, row, TICKS)
            chain = chain_of(labels)
            with self.subTest(labels=labels, row=row):
                self.assertEqual([held_after(chain, row, ticks) for ticks in range(TICKS + 1)], helds)

    def test_nth_out(self):
        for labels, row in cases():
            outs = [out for out in again(labels, row, TICKS)[1] if out is not None]
            chain = chain_of(labels)
            with self.subTest(labels=labels, row=row):
                self.assertEqual([nth_out(chain, row, at + 1) for at in range(len(outs))], outs)

    def test_count_out(self):
        for labels, row in cases():
            outs = again(labels, row, TICKS)[1]
            chain = chain_of(labels)
            for ticks in range(0, TICKS, 7):
                numbers = sorted({out for out in outs[:ticks] if out is not None})
                wanted = [(number, outs[:ticks].count(number)) for number in numbers]
                with self.subTest(labels=labels, row=row, ticks=ticks):
                    self.assertEqual(list(count_out(chain, row, ticks).items()), wanted)

    def test_first_unlike(self):
        texts = ["last", "less", "first", "less last", "last less", "less greater", "near:2 less", *LONG_TEXTS]
        for one, other in itertools.product(texts, repeat=2):
            for row in (*ROWS, LONG_ROW):
                outs = again(one.split(" "), row, TICKS)[1]
                others = again(other.split(" "), row, TICKS)[1]
                wanted = next((at for at in range(TICKS) if outs[at] != others[at]), None)
                with self.subTest(one=one, other=other, row=row):
                    self.assertEqual(first_unlike(Chain.parse(one), Chain.parse(other), row), wanted)


class FarAwayTest(unittest.TestCase):
    """What happens up to 10 ** 18, from what is so many whole rows before it."""

    def early(self, far, row):
        return TICKS + (far - TICKS) % len(row)

    def test_held_after(self):
        for labels, row in cases():
            chain = chain_of(labels)
            for far in (HUGE, HUGE - 1, HUGE - 5):
                helds = again(labels, row, TICKS + 12)[0]
                with self.subTest(labels=labels, row=row, far=far):
                    self.assertEqual(held_after(chain, row, far), helds[self.early(far, row)])

    def test_nth_out(self):
        for labels, row in cases():
            outs = [out for out in again(labels, row, TICKS + 40)[1] if out is not None]
            chain = chain_of(labels)
            for far in (HUGE, HUGE - 1, HUGE - 5):
                with self.subTest(labels=labels, row=row, far=far):
                    self.assertEqual(nth_out(chain, row, far), outs[self.early(far, row) - 1])

    def test_count_out(self):
        for labels, row in cases():
            chain = chain_of(labels)
            for far in (HUGE, HUGE - 1, HUGE - 5):
                early = self.early(far, row)
                outs = again(labels, row, early + len(row))[1]
                rows = (far - early) // len(row)
                wanted = {out: outs[:early].count(out) + rows * outs[early:].count(out) for out in sorted(
                    {out for out in outs if out is not None})}
                with self.subTest(labels=labels, row=row, far=far):
                    found = count_out(chain, row, far)
                    self.assertEqual(list(found.items()), list(wanted.items()))
                    self.assertEqual(sum(found.values()), far - len(labels))

    def test_by_hand(self):
        chain = Chain.parse("less less")
        self.assertEqual(held_after(chain, [5, 3], HUGE), (3, 3))
        self.assertEqual(count_out(chain, [5, 3], HUGE), {3: HUGE // 2 - 2, 5: HUGE // 2})
        self.assertEqual(nth_out(Chain.parse("last last last"), [1, 2, 3], HUGE), 1)


class EdgesTest(unittest.TestCase):
    def test_no_ticks(self):
        chain = Chain.parse("less last greater")
        self.assertEqual(held_after(chain, [5, 3], 0), (None, None, None))
        self.assertEqual(count_out(chain, [5, 3], 0), {})

    def test_no_number_has_come_out_yet(self):
        chain = Chain.parse("less last greater")
        self.assertEqual([count_out(chain, [5, 3], ticks) for ticks in (1, 2, 3)], [{}, {}, {}])

    def test_keys_ascend(self):
        counts = count_out(Chain.parse("last"), [9, -3, 4, 0], 40)
        self.assertEqual(list(counts.items()), [(-3, 10), (0, 9), (4, 10), (9, 10)])

    def test_equal_numbers_are_two_places(self):
        self.assertEqual(find_cycle(Chain.parse("last"), [4]), (1, 1))
        self.assertEqual(find_cycle(Chain.parse("last"), [4, 4]), (1, 2))
        self.assertEqual(find_cycle(Chain.parse("first first"), [4, 4, 4]), (2, 3))
        self.assertEqual(find_cycle(Chain.parse("last last"), [1, 2, 1, 2]), (2, 4))

    def test_first_unlike_with_equal_chains(self):
        for text in LONG_TEXTS:
            self.assertIsNone(first_unlike(Chain.parse(text), Chain.parse(text), LONG_ROW))

    def test_first_unlike_with_unlike_lengths(self):
        self.assertEqual(first_unlike(Chain.parse("less"), Chain.parse("less less less"), [1]), 1)
        self.assertEqual(first_unlike(Chain.parse("less less less"), Chain.parse("less"), [1]), 1)
        self.assertEqual(first_unlike(Chain.parse("last last"), Chain.parse("last last last"), [4, 4]), 2)

    def test_first_unlike_with_chains_that_never_differ(self):
        self.assertIsNone(first_unlike(Chain.parse("less"), Chain.parse("greater"), [4, 4, 4]))
        self.assertIsNone(first_unlike(Chain.parse("less"), Chain.parse("near:0"), [5, 3, 4]))
        self.assertIsNone(first_unlike(Chain.parse("first first"), Chain.parse("less less"), [1, 1, 2]))

    def test_first_unlike_in_a_later_row(self):
        self.assertEqual(first_unlike(Chain.parse("first"), Chain.parse("less"), [3, 5, 3, 4, 1]), 4)
        self.assertEqual(first_unlike(Chain.parse("last"), Chain.parse("greater"), [1, 2, 3]), 3)

    def test_returned_dicts_may_be_modified(self):
        chain = Chain.parse("less less")
        counts = count_out(chain, [5, 3], 6)
        counts[5] = 77
        counts[8] = 1
        self.assertEqual(count_out(chain, [5, 3], 6), {3: 1, 5: 3})

    def test_repeating_gives_the_same(self):
        for first, second in zip(calls([5, 3, 4]), calls([5, 3, 4])):
            self.assertEqual(first(), second())
        chain = Chain.parse("less last")
        with self.assertRaises(InvalidNumber):
            nth_out(chain, [5, 3], 0)
        self.assertEqual(chain.text, "less last")
        self.assertEqual(nth_out(chain, [5, 3], 1), 5)

    def test_kinds_of_values(self):
        chain = Chain.parse("less less")
        self.assertIsInstance(find_cycle(chain, [1, 2]), tuple)
        self.assertIsInstance(held_after(chain, [1, 2], 5), tuple)
        self.assertIsInstance(count_out(chain, [1, 2], 5), dict)


if __name__ == "__main__":
    unittest.main()
