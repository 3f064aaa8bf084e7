"""Each example of the interface, as it stands in the document."""

import unittest

from siftchain.cells import Cell, Chain, Greater, Last, Less, Near
from siftchain.errors import Contradiction, InvalidNumber, InvalidOperation, InvalidRow, InvalidText
from siftchain.flows import count_out, find_cycle, first_unlike, held_after, nth_out
from siftchain.hidden import Observer
from siftchain.tracing import chain_for, earlier, rows_behind, telling_row
from siftchain.worktop import Worktop


class ExamplesTest(unittest.TestCase):
    def test_cells(self):
        found = [Less()(3, 2), Cell()(3, 2), Last()(3, 2), Near(0)(3, -3), Near(-5).label, (-Near(5)).label]
        self.assertEqual(found, [(2, 3), (3, 2), (2, 3), (3, -3), "near:-5", "near:-5"])

    def test_run(self):
        chain = Chain(Less(), Less())
        self.assertEqual(chain([5, 3, 4, 1]), ([None, None, 5, 4], (1, 3)))

    def test_make(self):
        chain = Chain(Less(), Less())
        found = [len(chain), chain[1].label, (chain >> Chain(Last())).text, (-chain).text,
                 Chain.parse("less near:-5 first").text]
        self.assertEqual(found, [2, "less", "less less last", "greater greater", "less near:-5 first"])

    def test_parse_fails(self):
        with self.assertRaises(InvalidText) as caught:
            Chain.parse("less more")
        self.assertEqual(caught.exception.word, 1)

    def test_run_fails(self):
        chain = Chain(Less(), Less())
        with self.assertRaises(InvalidRow) as caught:
            chain([5, None])
        self.assertEqual(caught.exception.index, 1)

    def test_nth_out(self):
        chain = Chain(Last())
        self.assertEqual([nth_out(chain, [7, 8], 1), nth_out(chain, [7, 8], 10 ** 18)], [7, 8])

    def test_held_after(self):
        chain = Chain(Less(), Less())
        self.assertEqual([held_after(chain, [5, 3], 1), held_after(chain, [5, 3], 4)], [(5, None), (3, 3)])

    def test_find_cycle(self):
        self.assertEqual(find_cycle(Chain(Less(), Less()), [5, 3]), (4, 2))

    def test_count_out(self):
        counts = count_out(Chain(Less(), Less()), [5, 3], 6)
        self.assertEqual(list(counts.items()), [(3, 1), (5, 3)])

    def test_first_unlike(self):
        chain = Chain(Less(), Less())
        self.assertEqual(first_unlike(chain, -chain, [5, 3]), 2)


class TracingExamplesTest(unittest.TestCase):
    def test_earlier(self):
        chain = Chain(Less(), Less())
        self.assertEqual(earlier(chain, (1, 3), 4), [(1, (3, 4)), (1, (4, 3)), (3, (1, 4)), (4, (1, 3))])

    def test_rows_behind(self):
        self.assertEqual(rows_behind(Chain(Less()), (3,), [None, 5]), (2, [3, 5]))

    def test_telling_row(self):
        self.assertEqual(telling_row(Chain(Less()), Chain(Greater()), [1, 2]), [1, 2])

    def test_chain_for(self):
        self.assertEqual(chain_for([5, 3, 4, 1], [None, None, 5, 4]).text, "last less")


class HiddenExamplesTest(unittest.TestCase):
    def setUp(self):
        self.observer = Observer(Chain(Less(), Less()), 0)

    def test_see(self):
        observer = self.observer
        self.assertEqual([observer.see(5, None), observer.see(3, None), observer.see(4, 5)], [4, 4, 2])

    def test_see_fails(self):
        with self.assertRaises(Contradiction):
            self.observer.see(5, 5)

    def test_see_all(self):
        self.assertEqual(self.observer.see_all((5, None), (3, None), (4, 5)), 2)

    def test_possible(self):
        self.observer.see_all((5, None), (3, None), (4, 5))
        self.assertEqual(self.observer.possible, ["last", "less"])

    def test_history(self):
        self.observer.see(5, None)
        self.assertEqual(self.observer.history, [(5, None)])

    def test_best_number(self):
        self.observer.see_all((5, None), (3, None))
        self.assertEqual(self.observer.best_number([3, 9]), 3)


class WorktopExamplesTest(unittest.TestCase):
    def setUp(self):
        self.worktop = Worktop(Chain(Less(), Less()))

    def test_put(self):
        worktop = self.worktop
        self.assertEqual([worktop.put(5), worktop.put(3), worktop.put(4)], [None, None, 5])

    def test_take(self):
        self.worktop.put(5)
        self.worktop.put(3)
        self.assertEqual([self.worktop.take(0), self.worktop.held], [3, (5, None)])

    def test_take_fails(self):
        with self.assertRaises(InvalidNumber):
            self.worktop.take(0)

    def test_swap(self):
        worktop = Worktop(Chain(Less(), Cell()))
        self.assertEqual([worktop.swap(0), worktop.chain_now.text], [("first", "less"), "first less"])

    def test_undo(self):
        self.worktop.put(5)
        self.assertEqual([self.worktop.undo(), self.worktop.held, self.worktop.undo()], [True, (None, None), False])

    def test_redo(self):
        self.worktop.put(5)
        self.worktop.undo()
        self.assertEqual([self.worktop.redo(), self.worktop.held], [True, (5, None)])

    def test_chain_now(self):
        self.assertEqual(self.worktop.chain_now.text, "less less")

    def test_held(self):
        self.worktop.put(5)
        self.assertEqual(self.worktop.held, (5, None))

    def test_let_out(self):
        self.worktop.batch([("put", 5), ("put", 3), ("put", 4)])
        self.assertEqual(self.worktop.let_out, [5])

    def test_operations(self):
        self.worktop.put(5)
        self.assertEqual(self.worktop.operations, ["put"])

    def test_restore(self):
        self.assertIsNone(self.worktop.save("x"))
        self.worktop.put(5)
        self.assertIsNone(self.worktop.restore("x"))
        self.assertEqual(self.worktop.held, (None, None))

    def test_batch(self):
        self.assertEqual(self.worktop.batch([("put", 5), ("undo",)]), [None, True])

    def test_batch_fails(self):
        with self.assertRaises(InvalidOperation) as caught:
            self.worktop.batch([("put",)])
        self.assertEqual(caught.exception.place, 0)

    def test_replay(self):
        worktop = Worktop.replay(Chain(Less()), [("put", 5), ("put", 3)])
        self.assertEqual([worktop.held, worktop.let_out], [(3,), [5]])


if __name__ == "__main__":
    unittest.main()
