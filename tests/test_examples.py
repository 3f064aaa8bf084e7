"""Each example of the interface, as it stands in the document."""

import unittest

from siftchain.cells import Cell, Chain, Last, Less, Near
from siftchain.errors import InvalidRow, InvalidText
from siftchain.flows import count_out, find_cycle, first_unlike, held_after, nth_out


class ExamplesTest(unittest.TestCase):
    def test_cells(self):
        found = [Less()(3, 2), Cell()(3, 2), Last()(3, 2), Near(0)(3, -3), Near(-5).label, (-Near(5)).label]
        self.assertEqual(found, [(2, 3), (3, 2), (2, 3), (3, -3), "near:-5", "near:-5"])

    def test_run(self):
        chain = Chain(Less(), Less())
        self.assertEqual(chain([5, 3, 4, 1]), ([None, None, 5, 4], (1, 3)))

    def test_make(self):
        chain = Chain(Less(), Less())
        found = [len(chain), chain[1].label, (chain >> Chain(Last())).text, (-chain).text,
                 Chain.parse("less near:-5 first").text]
        self.assertEqual(found, [2, "less", "less less last", "greater greater", "less near:-5 first"])

    def test_parse_fails(self):
        with self.assertRaises(InvalidText) as caught:
            Chain.parse("less more")
        self.assertEqual(caught.exception.word, 1)

    def test_run_fails(self):
        chain = Chain(Less(), Less())
        with self.assertRaises(InvalidRow) as caught:
            chain([5, None])
        self.assertEqual(caught.exception.index, 1)

    def test_nth_out(self):
        chain = Chain(Last())
        self.assertEqual([nth_out(chain, [7, 8], 1), nth_out(chain, [7, 8], 10 ** 18)], [7, 8])

    def test_held_after(self):
        chain = Chain(Less(), Less())
        self.assertEqual([held_after(chain, [5, 3], 1), held_after(chain, [5, 3], 4)], [(5, None), (3, 3)])

    def test_find_cycle(self):
        self.assertEqual(find_cycle(Chain(Less(), Less()), [5, 3]), (4, 2))

    def test_count_out(self):
        counts = count_out(Chain(Less(), Less()), [5, 3], 6)
        self.assertEqual(list(counts.items()), [(3, 1), (5, 3)])

    def test_first_unlike(self):
        chain = Chain(Less(), Less())
        self.assertEqual(first_unlike(chain, -chain, [5, 3]), 2)


if __name__ == "__main__":
    unittest.main()
