"""Point 10: batches and replays."""

import itertools
import unittest

from siftchain.cells import Chain
from siftchain.errors import InvalidNumber, InvalidOperation, SiftError, UnknownCell
from siftchain.worktop import Worktop
from tests.benches import act, bench, shown, whole
from tests.model import work
from tests.values import BIG

MALFORMED = (
    None, True, 5, "put", "undo", [], ["put", 5], ["undo"], (),
    ("push", 5), ("Put", 5), ("",), ("save", "a"), ("restore", "a"), ("batch", []), ("held",), ("now",),
    (5, 5), (None,), (True, 1), (("put",), 5), (["put"], 5), (["undo"],), ([],),
    ("put",), ("take",), ("swap",), ("put", 5, 5), ("take", 0, 0), ("swap", 0, 1), ("undo", 1), ("redo", None),
    ("undo", ()),
)
FAILING = (
    (("put", None), InvalidNumber), (("put", True), InvalidNumber), (("put", BIG + 1), InvalidNumber),
    (("put", [5]), InvalidNumber), (("take", 7), UnknownCell), (("take", "0"), UnknownCell),
    (("take", -1), UnknownCell), (("take", 2), InvalidNumber), (("swap", 2), UnknownCell),
    (("swap", False), UnknownCell), (("swap", ["a"]), UnknownCell),
)
NO_LISTS = (True, False, None, 0, 5, "", "put", (), (("put", 5),), ("undo",))


def used():
    """Return a worktop of three cells with an empty one, and something to undo and to redo."""
    worktop = bench("less last greater", 5, 3, 4)
    worktop.undo()
    return worktop


class BatchTest(unittest.TestCase):
    def test_each_operation(self):
        worktop = bench("less last")
        found = worktop.batch([("put", 5), ("put", 3), ("put", 4), ("take", 1), ("swap", 0), ("undo",), ("redo",),
                               ("redo",), ("undo",), ("undo",)])
        self.assertEqual(found, [None, None, 5, 4, ("last", "less"), True, True, False, True, True])
        self.assertEqual(shown(worktop), ("less last", (3, 4), [5], ["put", "put", "put"]))

    def test_the_empty_list(self):
        worktop = used()
        before = whole(worktop)
        self.assertEqual(worktop.batch([]), [])
        self.assertEqual(whole(worktop), before)

    def test_the_same_as_one_after_another(self):
        operations = (("put", 4), ("put", 1), ("take", 0), ("swap", 1), ("undo",), ("redo",))
        for chosen in itertools.product(operations, repeat=4):
            worktop, other = used(), used()
            wanted = [act(other, operation) for operation in chosen]
            errors = [result for result in wanted if isinstance(result, type)]
            found = act(worktop, ("batch", list(chosen)))
            self.assertEqual(found, errors[0] if errors else wanted)
            self.assertEqual(whole(worktop), whole(used() if errors else other))

    def test_undo_beyond_its_beginning(self):
        worktop = bench("less last", 5, 3)
        self.assertEqual(worktop.batch([("put", 4), ("undo",), ("undo",), ("undo",), ("undo",)]),
                         [5, True, True, True, False])
        self.assertEqual(shown(worktop), ("less last", (None, None), [], []))
        self.assertEqual(worktop.batch([("redo",)] * 4), [True, True, True, False])
        self.assertEqual(shown(worktop), shown(bench("less last", 5, 3, 4)))

    def test_redo_of_what_was_undone_before(self):
        worktop = used()
        self.assertEqual(worktop.batch([("redo",), ("redo",)]), [True, False])
        self.assertEqual(shown(worktop), shown(bench("less last greater", 5, 3, 4)))

    def test_single_operations_are_undone(self):
        worktop = bench("less")
        worktop.batch([("put", 5), ("put", 3)])
        self.assertEqual([worktop.undo(), worktop.held, worktop.operations], [True, (5,), ["put"]])

    def test_malformed_entries(self):
        for wrong in MALFORMED:
            for start in ([], [("put", 5)], [("put", 5), ("undo",), ("take", 0)]):
                for end in ([], [("put", 6)], [None, ("put", 6)]):
                    self.check_place(start + [wrong] + end, len(start))

    def check_place(self, operations, place):
        worktop = used()
        before = whole(worktop)
        with self.subTest(operations=operations):
            with self.assertRaises(InvalidOperation) as caught:
                worktop.batch(operations)
            self.assertEqual(caught.exception.place, place)
        self.assertEqual(whole(worktop), before)

    def test_no_lists(self):
        for operations in NO_LISTS:
            self.check_place(operations, 0)

    def test_malformed_entries_come_before_failing_ones(self):
        self.check_place([("put", None), ("put",)], 1)
        self.check_place([("take", 9), ("put", 5), ("undo", 1)], 2)
        self.check_place([("put",), ("put", None)], 0)

    def test_failing_operations(self):
        for operation, error in FAILING:
            for start in ([], [("undo",)], [("undo",), ("undo",), ("undo",)], [("take", 0), ("put", 8)],
                          [("swap", 0), ("put", 7), ("take", 0), ("redo",)]):
                worktop = used()
                worktop.save("a")
                before = whole(worktop)
                with self.subTest(operation=operation, start=start), self.assertRaises(error):
                    worktop.batch(start + [operation, ("put", 6)])
                self.assertEqual(whole(worktop), before)
                self.assertEqual(shown(worktop), shown(used()))
                self.assertEqual([worktop.redo(), worktop.redo()], [True, False])
                worktop.restore("a")
                self.assertEqual(whole(worktop), before)

    def test_the_first_failing_one_raises(self):
        with self.assertRaises(InvalidNumber):
            used().batch([("put", None), ("swap", 9)])
        with self.assertRaises(UnknownCell):
            used().batch([("swap", 9), ("put", None)])

    def test_new_operations_after_a_batch_that_failed(self):
        worktop = used()
        with self.assertRaises(SiftError):
            worktop.batch([("undo",), ("put", 9), ("put", 9), ("take", 9)])
        self.assertEqual([worktop.put(4), worktop.redo()], [None, False])
        self.assertEqual(whole(worktop), whole(bench("less last greater", 5, 3, 4)))

    def test_undo_that_has_nothing_to_undo_does_not_fail(self):
        self.assertEqual(bench("less").batch([("undo",), ("redo",), ("put", 5)]), [False, False, None])

    def test_the_list_is_not_modified(self):
        for operations in ([("put", 5), ("undo",)], [("put", 5), ("put", None)], [("put", 5), ["put", 5]]):
            before = list(operations)
            act(used(), ("batch", operations))
            self.assertEqual(operations, before)

    def test_results_are_new(self):
        worktop = bench("less")
        found = worktop.batch([("put", 5), ("put", 3)])
        self.assertIsInstance(found, list)
        found.clear()
        self.assertEqual(shown(worktop), ("less", (3,), [5], ["put", "put"]))


class ReplayTest(unittest.TestCase):
    def check_place(self, operations, place):
        chain = Chain.parse("less last greater")
        with self.subTest(operations=operations):
            with self.assertRaises(InvalidOperation) as caught:
                Worktop.replay(chain, operations)
            self.assertEqual(caught.exception.place, place)
        self.assertEqual(chain.text, "less last greater")

    def test_the_same_as_a_batch(self):
        operations = (("put", 4), ("put", 1), ("swap", 1), ("undo",), ("redo",))
        for chosen in itertools.product(operations, repeat=4):
            worktop = bench("less last greater")
            worktop.batch(list(chosen))
            found = Worktop.replay(Chain.parse("less last greater"), list(chosen))
            self.assertIsInstance(found, Worktop)
            self.assertEqual(whole(found), whole(worktop))
            self.assertEqual(shown(found), work(["less", "last", "greater"], chosen))

    def test_each_operation(self):
        worktop = Worktop.replay(Chain.parse("less last"), [("put", 5), ("put", 3), ("put", 4), ("take", 1),
                                                            ("swap", 0), ("undo",), ("redo",), ("undo",)])
        self.assertEqual(shown(worktop), ("less last", (3, None), [5], ["put", "put", "put", "take"]))
        self.assertEqual([worktop.redo(), worktop.redo()], [True, False])

    def test_the_empty_list(self):
        worktop = Worktop.replay(Chain.parse("less last"), [])
        self.assertEqual(shown(worktop), ("less last", (None, None), [], []))
        self.assertEqual([worktop.undo(), worktop.redo()], [False, False])

    def test_it_works_on(self):
        worktop = Worktop.replay(Chain.parse("less"), [("put", 5)])
        worktop.save("a")
        self.assertEqual([worktop.put(3), worktop.undo(), worktop.undo(), worktop.undo()], [5, True, True, False])
        worktop.restore("a")
        self.assertEqual(worktop.held, (5,))

    def test_no_lists(self):
        for operations in NO_LISTS:
            self.check_place(operations, 0)

    def test_malformed_entries(self):
        for wrong in MALFORMED:
            for start in ([], [("put", 5)], [("put", 5), ("undo",), ("redo",), ("take", 0)]):
                self.check_place(start + [wrong], len(start))
                self.check_place(start + [wrong, ("put", 6)], len(start))

    def test_failing_operations(self):
        for operation, error in FAILING:
            for start in ([], [("put", 5)], [("put", 5), ("undo",), ("undo",), ("swap", 0)]):
                self.check_place(start + [operation], len(start))
                self.check_place(start + [operation, ("put", 6)], len(start))

    def test_malformed_and_failing_in_both_orders(self):
        self.check_place([("put", None), ("put",)], 0)
        self.check_place([("put",), ("put", None)], 0)
        self.check_place([("put", 5), ("take", 2), None, ("take", 9)], 1)
        self.check_place([("put", 5), None, ("take", 2)], 1)
        self.check_place([("put", 5), ("undo",), ("put", 4), ("take", 1), ("undo", 1)], 3)

    def test_the_list_is_not_modified(self):
        operations = [("put", 5), ("put", 3)]
        worktop = Worktop.replay(Chain.parse("less"), operations)
        operations.append(("undo",))
        self.assertEqual(worktop.operations, ["put", "put"])
        worktop.put(4)
        self.assertEqual(operations, [("put", 5), ("put", 3), ("undo",)])


if __name__ == "__main__":
    unittest.main()
