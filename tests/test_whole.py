"""Point 1: what holds for the whole program."""

import unittest

from siftchain.cells import Chain
from siftchain.errors import Contradiction, InvalidNumber, InvalidRow, SiftError, TooMany
from siftchain.flows import count_out, find_cycle, first_unlike, held_after, nth_out
from siftchain.hidden import Observer
from siftchain.tracing import chain_for, earlier, rows_behind, telling_row
from siftchain.worktop import Worktop
from tests.benches import bench, shown, whole


def plain(value):
    """Return a value with chains as their texts."""
    return value.text if isinstance(value, Chain) else value


def calls(chain, other):
    """Return calls of all functions, by name, with arguments that are right and that are wrong."""
    return {
        "run": lambda: chain([5, 3, 4, 1]),
        "run fails": lambda: chain([5, None]),
        "nth_out": lambda: nth_out(chain, [5, 3, 4], 7),
        "nth_out fails": lambda: nth_out(chain, [5, 3, 4], 0),
        "held_after": lambda: held_after(chain, [5, 3, 4], 7),
        "find_cycle": lambda: find_cycle(chain, [5, 3, 4]),
        "find_cycle fails": lambda: find_cycle(chain, []),
        "count_out": lambda: count_out(chain, [5, 3, 4], 9),
        "first_unlike": lambda: first_unlike(chain, other, [5, 3, 4]),
        "earlier": lambda: earlier(chain, (1, 3), 4),
        "earlier fails": lambda: earlier(chain, (1, True), 4),
        "rows_behind": lambda: rows_behind(chain, (1, 3), [None, None, 4, 5]),
        "rows_behind fails": lambda: rows_behind(chain, (1, 3), [None] * 31),
        "telling_row": lambda: telling_row(chain, other, [1, 2]),
        "telling_row fails": lambda: telling_row(chain, other, [1] * 5),
        "chain_for": lambda: chain_for([5, 3, 4, 1], [None, None, 5, 4]),
        "chain_for fails": lambda: chain_for([5, 3, 4, 1], [None] * 6),
    }


def result(call):
    """Return what a call returns, or the class and the attributes of its error."""
    try:
        return plain(call())
    except SiftError as error:
        return error.__class__, vars(error)


class RepeatingTest(unittest.TestCase):
    def test_two_chains_alternately(self):
        one, other = Chain.parse("less less"), Chain.parse("last near:2")
        first = {name: result(call) for name, call in calls(one, other).items()}
        second = {name: result(call) for name, call in calls(other, one).items()}
        for name in reversed(list(first)):
            with self.subTest(name=name):
                self.assertEqual(result(calls(other, one)[name]), second[name])
                self.assertEqual(result(calls(one, other)[name]), first[name])
                self.assertEqual(result(calls(other, one)[name]), second[name])
        self.assertEqual([one.text, other.text], ["less less", "last near:2"])
        self.assertNotEqual(first, second)

    def test_fails_are_fails(self):
        chain = Chain.parse("less less")
        for name, call in calls(chain, Chain.parse("last last")).items():
            with self.subTest(name=name):
                if name.endswith("fails"):
                    self.assertRaises((InvalidRow, InvalidNumber, TooMany), call)
                else:
                    call()

    def test_returned_values_are_modified_in_between(self):
        one, other = Chain.parse("less less"), Chain.parse("last near:2")
        for name, call in calls(one, other).items():
            found = result(call)
            # As a text, since a list that was not new would be cleared in both places.
            before = repr(found)
            for part in found if isinstance(found, tuple) else (found,):
                if isinstance(part, (list, dict)):
                    part.clear()
            with self.subTest(name=name):
                self.assertEqual(repr(result(call)), before)


class ObserversTest(unittest.TestCase):
    def test_two_alternately(self):
        chain = Chain.parse("less less")
        one, other = Observer(chain, 0), Observer(chain, 1)
        found = [one.see(5, None), other.see(7, None), one.see(3, None), other.see(9, None)]
        self.assertEqual(found, [4, 4, 4, 4])
        with self.assertRaises(Contradiction):
            one.see(8, 9)
        self.assertEqual([one.see(4, 5), other.see(8, 9)], [2, 2])
        self.assertEqual([one.possible, other.possible], [["last", "less"], ["last", "less"]])
        self.assertEqual(one.history, [(5, None), (3, None), (4, 5)])
        self.assertEqual(other.history, [(7, None), (9, None), (8, 9)])
        one.history.clear()
        other.possible.clear()
        self.assertEqual([one.see_all(), other.see_all()], [2, 2])
        self.assertEqual([len(one.history), len(other.possible)], [3, 2])

    def test_repeated_after_errors(self):
        observer = Observer(Chain.parse("less less"), 0)
        observer.see_all((5, None), (3, None))
        first = observer.best_number([9, 3]), observer.possible, observer.history
        for wrong in (lambda: observer.see(True, None), lambda: observer.see(4, None),
                      lambda: observer.see_all((4, 5), (4, 77)), lambda: observer.best_number([]),
                      lambda: observer.see_all((4, 5), ("a", None))):
            for time in range(2):
                self.assertRaises(SiftError, wrong)
            self.assertEqual((observer.best_number([9, 3]), observer.possible, observer.history), first)


class WorktopsTest(unittest.TestCase):
    def test_two_alternately(self):
        chain = Chain.parse("less last")
        one, other = Worktop(chain), Worktop(chain)
        self.assertEqual([one.put(5), other.put(7), one.put(3), other.put(8)], [None, None, None, None])
        one.save("a")
        other.save("a")
        self.assertEqual([one.swap(0), other.take(0)], [("last", "less"), 7])
        self.assertEqual([one.undo(), other.put(1), one.redo(), other.redo()], [True, None, True, False])
        self.assertEqual(shown(one), ("last less", (3, 5), [], ["put", "put", "swap"]))
        self.assertEqual(shown(other), ("less last", (1, 8), [], ["put", "put", "take", "put"]))
        one.restore("a")
        self.assertEqual(shown(one), ("less last", (3, 5), [], ["put", "put"]))
        self.assertEqual(shown(other), ("less last", (1, 8), [], ["put", "put", "take", "put"]))
        other.restore("a")
        self.assertEqual(shown(other), ("less last", (7, 8), [], ["put", "put"]))
        self.assertEqual(chain.text, "less last")

    def test_returned_lists_are_modified_in_between(self):
        worktop = bench("less", 5, 3)
        worktop.save("a")
        worktop.let_out.append(9)
        worktop.operations.append("put")
        results = worktop.batch([("put", 4), ("undo",)])
        results.clear()
        self.assertEqual(shown(worktop), ("less", (3,), [5], ["put", "put"]))
        worktop.restore("a")
        worktop.let_out.clear()
        self.assertEqual(shown(worktop), ("less", (3,), [5], ["put", "put"]))

    def test_repeated_after_errors(self):
        worktop = bench("less last", 5, 3, 4)
        worktop.undo()
        before = whole(worktop)
        for wrong in (lambda: worktop.put(None), lambda: worktop.take(2), lambda: worktop.swap(1),
                      lambda: worktop.save("A"), lambda: worktop.restore("a"), lambda: worktop.batch(None),
                      lambda: worktop.batch([("undo",), ("put", None)]), lambda: worktop.batch([("undo",), ("put",)]),
                      lambda: Worktop.replay(worktop.chain_now, [("put", 5), ("put", None)])):
            for time in range(2):
                self.assertRaises(SiftError, wrong)
            self.assertEqual(whole(worktop), before)


class FromLeftToRightTest(unittest.TestCase):
    def check_index(self, call, index):
        with self.assertRaises(InvalidRow) as caught:
            call()
        self.assertEqual(caught.exception.index, index)

    def test_first_wrong_argument(self):
        chain = Chain.parse("less less")
        five = Chain.parse("less less less less less")
        self.check_index(lambda: nth_out(chain, [1, None], None), 1)
        self.check_index(lambda: held_after(chain, [1, None], -1), 1)
        self.check_index(lambda: count_out(chain, [1, 2, "a"], True), 2)
        self.check_index(lambda: rows_behind(chain, (1, "a"), [True]), 1)
        self.check_index(lambda: chain_for([1, 2, 3, "a"], "b"), 3)
        self.assertRaises(TooMany, lambda: telling_row(five, chain, ["a"]))
        self.assertRaises(TooMany, lambda: telling_row(chain, five, ["a"]))
        self.assertRaises(InvalidNumber, lambda: Observer(chain, 0).see(True, 77))


if __name__ == "__main__":
    unittest.main()
