"""Point 9: worktops."""

import itertools
import unittest

from siftchain.cells import Chain
from siftchain.errors import InvalidName, InvalidNumber, UnknownCell, UnknownName
from siftchain.worktop import Worktop
from tests.benches import act, bench, shown, whole
from tests.model import run, work
from tests.values import BIG, HUGE, NO_INTEGERS

TEXTS = ("less", "last", "less less", "greater near:2 first", "near:4 last less greater")
NO_NAMES = ("", "aaaaaaaaa", "a" * 50, "A", "Ab", "aB", "a1", "1", "a b", " a", "a ", "a\n", "\n", "a-b", "a_b", "_",
            "\u00e9", "a\u00df", "\u0430", "\u03b1", "\u00aa", "\uff41", "{", "`")
NO_STRINGS = (True, False, None, 0, 5, (), ("a",), [], ["a"], ["x", 1])


class BeginningTest(unittest.TestCase):
    def test_at_first(self):
        for text in TEXTS:
            chain = Chain.parse(text)
            worktop = Worktop(chain)
            self.assertEqual(shown(worktop), (text, chain.empty, [], []))
            self.assertEqual([worktop.undo(), worktop.redo()], [False, False])
            self.assertEqual(worktop.chain_now, chain)

    def test_kinds_of_values(self):
        worktop = bench("less", 5, 3)
        self.assertIsInstance(worktop.chain_now, Chain)
        self.assertIsInstance(worktop.held, tuple)
        self.assertIsInstance(worktop.let_out, list)
        self.assertIsInstance(worktop.operations, list)
        self.assertIs(worktop.undo(), True)
        self.assertIs(worktop.redo(), True)
        self.assertIs(worktop.redo(), False)
        self.assertIsNone(worktop.save("a"))
        self.assertIsNone(worktop.restore("a"))


class PutTest(unittest.TestCase):
    def test_against_the_model(self):
        for text in TEXTS:
            worktop = bench(text)
            row = [4, 1, 5, 9, 2, 6, 5, 3, 5, 8]
            helds, outs = run(text.split(" "), row)
            for at, number in enumerate(row):
                self.assertEqual(worktop.put(number), outs[at])
                self.assertEqual(worktop.held, helds[at + 1])
                self.assertEqual(worktop.let_out, [out for out in outs[:at + 1] if out is not None])
                self.assertEqual(worktop.operations, ["put"] * (at + 1))

    def test_limits(self):
        worktop = bench("less")
        self.assertEqual([worktop.put(BIG), worktop.put(-BIG), worktop.put(0)], [None, BIG, 0])
        before = whole(worktop)
        for wrong in NO_INTEGERS + (BIG + 1, -BIG - 1, HUGE):
            with self.subTest(wrong=wrong), self.assertRaises(InvalidNumber):
                worktop.put(wrong)
        self.assertEqual(whole(worktop), before)


class TakeTest(unittest.TestCase):
    def test_each_place(self):
        wanted = {0: (2, (3, 4, None)), 1: (3, (2, 4, None)), 2: (4, (2, 3, None))}
        for index, (number, held) in wanted.items():
            worktop = bench("less less less", 2, 3, 4)
            self.assertEqual(worktop.take(index), number)
            self.assertEqual(worktop.held, held)
            self.assertEqual([worktop.let_out, worktop.operations], [[], ["put"] * 3 + ["take"]])

    def test_some_are_empty(self):
        worktop = bench("first first first", 7, 8)
        self.assertEqual(worktop.take(0), 7)
        self.assertEqual(worktop.held, (8, None, None))
        self.assertEqual(worktop.take(0), 8)
        self.assertEqual(worktop.held, (None, None, None))

    def test_one_cell(self):
        worktop = bench("less", 5)
        self.assertEqual([worktop.take(0), worktop.held], [5, (None,)])
        self.assertEqual([worktop.put(6), worktop.put(4), worktop.let_out], [None, 6, [6]])

    def test_zero_is_a_number(self):
        worktop = bench("less less", 0)
        self.assertEqual([worktop.take(0), worktop.held], [0, (None, None)])

    def test_numbers_come_in_after_it(self):
        worktop = bench("less less less", 2, 3, 4)
        worktop.take(0)
        self.assertEqual([worktop.put(1), worktop.held], [None, (1, 3, 4)])
        self.assertEqual([worktop.put(9), worktop.let_out], [9, [9]])

    def test_empty_cells(self):
        for text, numbers, empty in (("less", [], [0]), ("less less", [], [0, 1]), ("less less", [5], [1]),
                                     ("less less less", [5], [1, 2]), ("less less less", [5, 6], [2])):
            for index in empty:
                worktop = bench(text, *numbers)
                before = whole(worktop)
                with self.subTest(text=text, index=index), self.assertRaises(InvalidNumber):
                    worktop.take(index)
                self.assertEqual(whole(worktop), before)

    def test_unknown_cells(self):
        for text in ("less", "less less", "last last last last last last last last"):
            many = len(text.split(" "))
            for numbers in ([], [5], [5] * many):
                worktop = bench(text, *numbers)
                before = whole(worktop)
                for index in (-HUGE, -many, -1, many, many + 1, HUGE) + NO_INTEGERS:
                    with self.subTest(text=text, index=index), self.assertRaises(UnknownCell):
                        worktop.take(index)
                self.assertEqual(whole(worktop), before)


class SwapTest(unittest.TestCase):
    def test_each_place(self):
        for index, text in ((0, "near:2 less last"), (1, "less last near:2")):
            for numbers in ([], [5], [5, 1, 7, 2]):
                worktop = bench("less near:2 last", *numbers)
                held, outs = worktop.held, worktop.let_out
                self.assertEqual(worktop.swap(index), tuple(text.split(" ")[index:index + 2]))
                self.assertEqual(shown(worktop), (text, held, outs, ["put"] * len(numbers) + ["swap"]))

    def test_the_new_rules_work(self):
        worktop = bench("first last", 5, 3)
        self.assertEqual(worktop.swap(0), ("last", "first"))
        self.assertEqual([worktop.put(4), worktop.held], [5, (4, 3)])

    def test_twice(self):
        worktop = bench("first last", 5, 3)
        self.assertEqual([worktop.swap(0), worktop.swap(0)], [("last", "first"), ("first", "last")])
        self.assertEqual(worktop.operations, ["put", "put", "swap", "swap"])

    def test_equal_rules(self):
        worktop = bench("less less")
        self.assertEqual([worktop.swap(0), worktop.operations, worktop.undo()], [("less", "less"), ["swap"], True])

    def test_unknown_cells(self):
        for text in ("less", "less last", "last less last less last less last less"):
            many = len(text.split(" "))
            worktop = bench(text, 5)
            before = whole(worktop)
            for index in (-HUGE, -many, -1, many - 1, many, HUGE) + NO_INTEGERS:
                with self.subTest(text=text, index=index), self.assertRaises(UnknownCell):
                    worktop.swap(index)
            self.assertEqual(whole(worktop), before)
        self.assertEqual(bench("last less last less last less last less").swap(6), ("less", "last"))

    def test_the_given_chain_stays(self):
        chain = Chain.parse("less last")
        worktop = Worktop(chain)
        worktop.swap(0)
        self.assertEqual([chain.text, worktop.chain_now.text], ["less last", "last less"])


class UndoTest(unittest.TestCase):
    def test_at_the_beginning(self):
        worktop = bench("less", 5)
        self.assertEqual([worktop.undo(), worktop.undo(), worktop.undo()], [True, False, False])
        self.assertEqual(shown(worktop), ("less", (None,), [], []))
        self.assertEqual([worktop.redo(), worktop.redo()], [True, False])
        self.assertEqual(shown(worktop), ("less", (5,), [], ["put"]))

    def test_each_operation(self):
        worktop = bench("less last", 5, 3)
        for act_on in (lambda: worktop.put(4), lambda: worktop.take(0), lambda: worktop.swap(0)):
            before = shown(worktop)
            act_on()
            after = shown(worktop)
            self.assertIs(worktop.undo(), True)
            self.assertEqual(shown(worktop), before)
            self.assertIs(worktop.redo(), True)
            self.assertEqual(shown(worktop), after)

    def test_let_out_and_operations(self):
        worktop = bench("less", 5, 3, 4)
        self.assertEqual([worktop.let_out, worktop.operations], [[5, 4], ["put"] * 3])
        worktop.undo()
        self.assertEqual([worktop.let_out, worktop.operations], [[5], ["put"] * 2])
        worktop.undo()
        self.assertEqual([worktop.let_out, worktop.operations], [[], ["put"]])
        worktop.redo()
        self.assertEqual([worktop.let_out, worktop.operations], [[5], ["put"] * 2])

    def test_no_redo_after_a_new_operation(self):
        for operation in (("put", 9), ("take", 0), ("swap", 0)):
            worktop = bench("less last", 5, 3, 4)
            worktop.undo()
            worktop.undo()
            act(worktop, operation)
            before = shown(worktop)
            self.assertIs(worktop.redo(), False)
            self.assertEqual(shown(worktop), before)
            self.assertEqual(worktop.operations, ["put", operation[0]])
            worktop.undo()
            worktop.redo()
            self.assertEqual(shown(worktop), before)

    def test_redo_after_an_operation_that_failed(self):
        worktop = bench("less last", 5, 3, 4)
        worktop.undo()
        for operation in (("put", True), ("take", 2), ("swap", 1), ("save", "A"), ("restore", "x")):
            self.assertIsInstance(act(worktop, operation), type)
        worktop.undo()
        self.assertIs(act(worktop, ("take", 1)), InvalidNumber)
        self.assertEqual([worktop.redo(), worktop.redo(), worktop.redo()], [True, True, False])
        self.assertEqual(shown(worktop), shown(bench("less last", 5, 3, 4)))

    def test_undo_after_an_operation_that_failed(self):
        worktop = bench("less last", 5)
        self.assertIs(act(worktop, ("put", None)), InvalidNumber)
        self.assertEqual([worktop.undo(), worktop.held], [True, (None, None)])

    def test_all_orders_against_the_model(self):
        operations = (("put", 4), ("put", 1), ("swap", 0), ("undo",), ("redo",))
        start = [("put", 3), ("put", 2)]
        for chosen in itertools.product(operations, repeat=5):
            worktop = bench("less last", 3, 2)
            for operation in chosen:
                act(worktop, operation)
            if shown(worktop) != work(["less", "last"], start + list(chosen)):
                self.fail(f"{chosen}: {shown(worktop)}")

    def test_takes_against_the_model(self):
        operations = (("put", 4), ("take", 0), ("take", 1), ("swap", 1), ("undo",), ("redo",))
        start = [("put", number) for number in (3, 2, 6, 1)]
        for chosen in itertools.product(operations, repeat=4):
            worktop = bench("less last greater", 3, 2, 6, 1)
            done = [operation for operation in chosen if not isinstance(act(worktop, operation), type)]
            if shown(worktop) != work(["less", "last", "greater"], start + done):
                self.fail(f"{chosen}: {shown(worktop)}")


class ReadingTest(unittest.TestCase):
    def test_lists_are_new(self):
        worktop = bench("less", 5, 3)
        worktop.let_out.append(1)
        worktop.operations.clear()
        self.assertIsNot(worktop.let_out, worktop.let_out)
        self.assertIsNot(worktop.operations, worktop.operations)
        self.assertEqual(shown(worktop), ("less", (3,), [5], ["put", "put"]))
        self.assertEqual([worktop.put(4), worktop.let_out], [4, [5, 4]])

    def test_reading_changes_nothing(self):
        worktop = bench("less last", 5, 3, 4)
        worktop.undo()
        self.assertEqual(shown(worktop), shown(worktop))
        self.assertEqual(whole(worktop), whole(worktop))
        self.assertIs(worktop.redo(), True)


class NamesTest(unittest.TestCase):
    def test_right_names(self):
        worktop = bench("less")
        for name in ("a", "z", "az", "abcdefgh", "zzzzzzzz", "undo"):
            worktop.save(name)
            worktop.restore(name)

    def test_wrong_names(self):
        worktop = bench("less", 5)
        before = whole(worktop)
        for name in NO_NAMES + NO_STRINGS:
            with self.subTest(name=name), self.assertRaises(InvalidName):
                worktop.save(name)
            with self.subTest(name=name), self.assertRaises(UnknownName):
                worktop.restore(name)
        self.assertEqual(whole(worktop), before)

    def test_unknown_names(self):
        worktop = bench("less", 5)
        worktop.save("ab")
        before = whole(worktop)
        for name in ("a", "b", "abc", "AB", "ab ") + NO_NAMES + NO_STRINGS:
            with self.subTest(name=name), self.assertRaises(UnknownName):
                worktop.restore(name)
        self.assertEqual(whole(worktop), before)

    def test_names_of_another_worktop(self):
        bench("less").save("a")
        with self.assertRaises(UnknownName):
            bench("less").restore("a")


class SnapshotTest(unittest.TestCase):
    def test_the_complete_state(self):
        worktop = bench("less last", 5, 3, 4)
        worktop.swap(0)
        worktop.take(1)
        worktop.undo()
        before = whole(worktop)
        worktop.save("a")
        self.assertEqual(whole(worktop), before)
        worktop.put(8)
        worktop.swap(0)
        worktop.restore("a")
        self.assertEqual(whole(worktop), before)
        self.assertIs(worktop.redo(), True)
        self.assertEqual(worktop.operations, ["put", "put", "put", "swap", "take"])

    def test_restored_twice(self):
        worktop = bench("less last", 5, 3)
        worktop.undo()
        before = whole(worktop)
        worktop.save("a")
        for number in (7, 8, 9):
            worktop.put(number)
            self.assertIs(worktop.redo(), False)
            worktop.restore("a")
            self.assertEqual(whole(worktop), before)
        worktop.restore("a")
        self.assertEqual(whole(worktop), before)

    def test_replaced(self):
        worktop = bench("less last", 5)
        worktop.save("a")
        worktop.put(3)
        worktop.save("a")
        worktop.put(4)
        worktop.restore("a")
        self.assertEqual(shown(worktop), shown(bench("less last", 5, 3)))

    def test_saving_leaves_redo(self):
        worktop = bench("less", 5, 3)
        worktop.undo()
        worktop.save("a")
        self.assertEqual([worktop.redo(), worktop.held], [True, (3,)])
        worktop.restore("a")
        self.assertEqual([worktop.held, worktop.redo(), worktop.held], [(5,), True, (3,)])

    def test_redo_behind_goes_with_the_state(self):
        worktop = bench("less", 5)
        worktop.save("a")
        worktop.put(3)
        worktop.undo()
        worktop.restore("a")
        self.assertEqual([worktop.redo(), worktop.held], [False, (5,)])

    def test_after_an_undo_beyond_the_time_of_saving(self):
        worktop = bench("less", 5, 3)
        worktop.save("a")
        before = whole(worktop)
        worktop.undo()
        worktop.undo()
        worktop.restore("a")
        self.assertEqual(whole(worktop), before)
        worktop.undo()
        worktop.undo()
        worktop.put(9)
        worktop.put(8)
        worktop.put(7)
        worktop.restore("a")
        self.assertEqual(whole(worktop), before)
        self.assertEqual([worktop.undo(), worktop.held], [True, (5,)])

    def test_snapshots_are_not_part_of_the_state(self):
        worktop = bench("less", 5)
        worktop.save("a")
        worktop.put(3)
        worktop.save("b")
        worktop.restore("a")
        worktop.restore("b")
        self.assertEqual(shown(worktop), shown(bench("less", 5, 3)))
        worktop.undo()
        worktop.undo()
        worktop.restore("b")
        worktop.restore("a")
        self.assertEqual(shown(worktop), shown(bench("less", 5)))

    def test_neither_is_an_operation(self):
        worktop = bench("less", 5)
        worktop.save("a")
        worktop.restore("a")
        self.assertEqual(worktop.operations, ["put"])
        self.assertEqual([worktop.undo(), worktop.undo()], [True, False])


if __name__ == "__main__":
    unittest.main()
