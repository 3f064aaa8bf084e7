"""Point 2: cells."""

import unittest

from siftchain.cells import Cell, Chain, Greater, Last, Less, Near
from siftchain.errors import InvalidNumber
from tests.model import keep
from tests.values import BIG, HUGE, NO_INTEGERS


def all_cells():
    return [Cell(), Last(), Less(), Greater(), Near(-BIG), Near(-5), Near(0), Near(5), Near(BIG)]


class KeepingTest(unittest.TestCase):
    def check(self, cell, smaller, equal, greater):
        """Check what is kept of 3 held if 2, 3 and 4 come."""
        self.assertEqual(cell(2, 3), smaller)
        self.assertEqual(cell(3, 3), equal)
        self.assertEqual(cell(4, 3), greater)
        self.assertIsInstance(cell(2, 3), tuple)

    def test_first(self):
        self.check(Cell(), (2, 3), (3, 3), (4, 3))

    def test_last(self):
        self.check(Last(), (3, 2), (3, 3), (3, 4))

    def test_less(self):
        self.check(Less(), (2, 3), (3, 3), (3, 4))

    def test_greater(self):
        self.check(Greater(), (3, 2), (3, 3), (4, 3))

    def test_near_above(self):
        self.check(Near(9), (3, 2), (3, 3), (4, 3))

    def test_near_below(self):
        self.check(Near(-9), (2, 3), (3, 3), (3, 4))

    def test_near_between(self):
        self.assertEqual(Near(5)(2, 7), (7, 2))
        self.assertEqual(Near(5)(7, 2), (7, 2))

    def test_equally_near_ones_leave_the_first(self):
        self.assertEqual(Near(5)(3, 7), (3, 7))
        self.assertEqual(Near(5)(7, 3), (7, 3))
        self.assertEqual(Near(-1)(-BIG, BIG - 2), (-BIG, BIG - 2))

    def test_all_against_the_model(self):
        numbers = [-BIG, -6, -5, -4, -1, 0, 1, 4, 5, 6, BIG]
        for cell in all_cells():
            for held in numbers:
                for came in numbers:
                    with self.subTest(cell=cell.label, held=held, came=came):
                        self.assertEqual(cell(held, came), keep(cell.label, held, came))

    def test_calls_change_nothing(self):
        for cell in all_cells():
            before = cell.label
            self.assertEqual(cell(8, 1), cell(8, 1))
            self.assertEqual(cell.label, before)


class MarkTest(unittest.TestCase):
    def test_limits(self):
        self.assertEqual(Near(-BIG).label, "near:-1000000000")
        self.assertEqual(Near(0).label, "near:0")
        self.assertEqual(Near(BIG).label, "near:1000000000")

    def test_beyond(self):
        for mark in (-BIG - 1, BIG + 1, -HUGE, HUGE):
            with self.subTest(mark=mark), self.assertRaises(InvalidNumber):
                Near(mark)

    def test_no_integers(self):
        for mark in NO_INTEGERS:
            with self.subTest(mark=mark), self.assertRaises(InvalidNumber):
                Near(mark)


class LabelTest(unittest.TestCase):
    def test_kinds(self):
        kinds = [Cell.KIND, Last.KIND, Less.KIND, Greater.KIND, Near.KIND]
        self.assertEqual(kinds, ["first", "last", "less", "greater", "near"])
        self.assertEqual(Near(3).KIND, "near")

    def test_labels(self):
        labels = [cell.label for cell in (Cell(), Last(), Less(), Greater(), Near(5), Near(-5))]
        self.assertEqual(labels, ["first", "last", "less", "greater", "near:5", "near:-5"])

    def test_subclasses(self):
        for cell in (Last(), Less(), Greater(), Near(0)):
            self.assertIsInstance(cell, Cell)


class OppositeTest(unittest.TestCase):
    def test_opposite(self):
        pairs = [(Cell(), Cell()), (Last(), Last()), (Less(), Greater()), (Greater(), Less()),
                 (Near(5), Near(-5)), (Near(-5), Near(5)), (Near(0), Near(0)), (Near(BIG), Near(-BIG)),
                 (Near(-BIG), Near(BIG))]
        for cell, opposite in pairs:
            with self.subTest(cell=cell.label):
                self.assertEqual((-cell).label, opposite.label)
                self.assertIs(type(-cell), type(opposite))
                self.assertEqual((-(-cell)).label, cell.label)

    def test_the_cell_stays(self):
        for cell in all_cells():
            before = cell.label
            self.assertIsNotNone(-cell)
            self.assertEqual(cell.label, before)


class EqualTest(unittest.TestCase):
    def test_equal_by_label(self):
        for at, one in enumerate(all_cells()):
            for beside, other in enumerate(all_cells()):
                with self.subTest(one=one.label, other=other.label):
                    self.assertIs(one == other, at == beside)
                    self.assertIs(one != other, at != beside)

    def test_nothing_else_is_equal(self):
        for cell in all_cells():
            for other in NO_INTEGERS + (0, 5, cell.label, cell.KIND, Chain(cell), (cell,), [cell]):
                with self.subTest(cell=cell.label, other=other):
                    self.assertIs(cell == other, False)
                    self.assertIs(other == cell, False)
                    self.assertIs(cell != other, True)


if __name__ == "__main__":
    unittest.main()
