"""Point 3: chains and their texts."""

import unittest

from siftchain.cells import Cell, Chain, Greater, Last, Less, Near
from siftchain.errors import InvalidChain, InvalidText, UnknownCell
from tests.values import BIG, HUGE, NO_INTEGERS

NO_CELLS = NO_INTEGERS + (0, 1, "first", Less, (Less(),), [Less()], Chain(Less()))


class MakingTest(unittest.TestCase):
    def check_index(self, cells, index):
        with self.assertRaises(InvalidChain) as caught:
            Chain(*cells)
        self.assertEqual(caught.exception.index, index)

    def test_lengths(self):
        self.assertEqual(Chain.MAX_CELLS, 8)
        for many in range(1, 9):
            self.assertEqual(len(Chain(*[Less()] * many)), many)

    def test_none(self):
        self.check_index([], 0)

    def test_too_many(self):
        self.check_index([Less()] * 9, 8)
        self.check_index([Less()] * 20, 8)

    def test_no_cell_at_each_place(self):
        for many in range(1, 9):
            for place in range(many):
                cells = [Less()] * many
                cells[place] = "less"
                with self.subTest(many=many, place=place):
                    self.check_index(cells, place)

    def test_many_kinds_of_no_cells(self):
        for wrong in NO_CELLS:
            with self.subTest(wrong=wrong):
                self.check_index([wrong], 0)
                self.check_index([Less(), wrong, Less()], 1)

    def test_the_first_wrong_one_counts(self):
        self.check_index([Less(), None, 5, Less()], 1)
        self.check_index([Less()] * 7 + [None, Less()], 7)
        self.check_index([Less()] * 8 + [None], 8)
        self.check_index([Less()] * 9 + [None], 8)


class TextTest(unittest.TestCase):
    def check_word(self, text, word):
        with self.subTest(text=text):
            with self.assertRaises(InvalidText) as caught:
                Chain.parse(text)
            self.assertEqual(caught.exception.word, word)

    def test_there_and_back(self):
        texts = ["first", "last", "less", "greater", "near:0", "near:5", "near:-5",
                 "near:1000000000", "near:-1000000000", "near:999999999", "less less",
                 "less near:-5 first", "first last less greater near:1 near:-1 near:0 near:10"]
        for text in texts:
            with self.subTest(text=text):
                chain = Chain.parse(text)
                self.assertIsInstance(chain, Chain)
                self.assertEqual(chain.text, text)
                self.assertEqual(len(chain), len(text.split(" ")))

    def test_cells_of_a_text(self):
        chain = Chain.parse("near:-7 first last less greater")
        self.assertEqual(chain, Chain(Near(-7), Cell(), Last(), Less(), Greater()))
        self.assertEqual([chain[0](0, -5), chain[1](1, 2), chain[2](1, 2), chain[3](1, 2), chain[4](1, 2)],
                         [(-5, 0), (1, 2), (2, 1), (1, 2), (2, 1)])

    def test_text_of_cells(self):
        chain = Chain(Cell(), Last(), Less(), Greater(), Near(BIG), Near(-BIG), Near(0))
        self.assertEqual(chain.text, "first last less greater near:1000000000 near:-1000000000 near:0")

    def test_empty_words(self):
        self.check_word("", 0)
        self.check_word(" ", 0)
        self.check_word(" less", 0)
        self.check_word("less ", 1)
        self.check_word("less  less", 1)
        self.check_word("less less  less", 2)

    def test_other_words(self):
        for word in ("more", "Less", "LESS", "les", "lesss", "near", "cell", "first:1", "less:", "near:5:5",
                     "less\tless", "less\n", "\nless", "less,less", "5", "-", "nearer:5"):
            self.check_word(word, 0)
            self.check_word("last " + word + " last", 1)
        self.check_word("last near: 5", 1)

    def test_wrong_marks(self):
        for mark in ("", "-", "--5", "05", "00", "-05", "+5", "+0", "-0", "5-", "1.0", "1e3", "0x5", "1_000",
                     "five", "5\n", "\u0665", "\u00b2", "1000000001", "-1000000001", "9999999999", "-9999999999",
                     "10000000000", "-10000000000", "00000000001", "9" * 5000, "None", "True"):
            self.check_word("near:" + mark, 0)
            self.check_word("less near:" + mark, 1)

    def test_first_wrong_word_counts(self):
        self.check_word("less more near:05", 1)
        self.check_word("more " + "less " * 8 + "less", 0)

    def test_ninth_word(self):
        self.assertEqual(len(Chain.parse(" ".join(["last"] * 8))), 8)
        self.check_word(" ".join(["last"] * 9), 8)
        self.check_word(" ".join(["last"] * 8 + ["more"]), 8)
        self.check_word(" ".join(["last"] * 8 + [""]), 8)
        self.check_word(" ".join(["last"] * 30), 8)
        self.check_word(" ".join(["last"] * 7 + ["more", "last"]), 7)

    def test_no_strings(self):
        for value in (True, False, None, 0, 5, (), ("less",), [], ["less"], Chain(Less())):
            self.check_word(value, 0)


class PartsTest(unittest.TestCase):
    def test_empty(self):
        self.assertEqual(Chain(Less()).empty, (None,))
        self.assertEqual(Chain(*[Less()] * 8).empty, (None,) * 8)
        self.assertIsInstance(Chain(Less()).empty, tuple)

    def test_index(self):
        cells = [Cell(), Last(), Less(), Greater(), Near(1), Near(2), Near(3), Near(4)]
        chain = Chain(*cells)
        for index, cell in enumerate(cells):
            self.assertEqual(chain[index].label, cell.label)

    def test_index_beyond(self):
        for many in (1, 3, 8):
            chain = Chain(*[Less()] * many)
            for index in (-HUGE, -many - 1, -many, -1, many, many + 1, HUGE):
                with self.subTest(many=many, index=index), self.assertRaises(UnknownCell):
                    chain[index]

    def test_index_no_integer(self):
        for index in NO_INTEGERS:
            with self.subTest(index=index), self.assertRaises(UnknownCell):
                Chain(Less(), Less())[index]

    def test_walking(self):
        chain = Chain(Less(), Last())
        walks = [
            lambda: list(chain),
            lambda: tuple(chain),
            lambda: iter(chain),
            lambda: [cell for cell in chain],
            lambda: Less() in chain,
            lambda: Chain(*chain),
        ]
        for at, walk in enumerate(walks):
            with self.subTest(at=at), self.assertRaises(TypeError):
                walk()
        with self.assertRaises(TypeError):
            one, other = chain


class JoiningTest(unittest.TestCase):
    def check_index(self, join, index):
        with self.assertRaises(InvalidChain) as caught:
            join()
        self.assertEqual(caught.exception.index, index)

    def test_order(self):
        one, other = Chain(Less(), Near(2)), Chain(Last())
        self.assertEqual((one >> other).text, "less near:2 last")
        self.assertEqual((other >> one).text, "last less near:2")
        self.assertIsInstance(one >> other, Chain)
        self.assertEqual([one.text, other.text], ["less near:2", "last"])

    def test_lengths(self):
        for many in range(1, 9):
            for more in range(1, 9):
                one, other = Chain(*[Less()] * many), Chain(*[Last()] * more)
                with self.subTest(many=many, more=more):
                    if many + more <= 8:
                        self.assertEqual(len(one >> other), many + more)
                    else:
                        self.check_index(lambda: one >> other, 8)

    def test_no_chains(self):
        chain = Chain(Less(), Less())
        for wrong in NO_INTEGERS + (0, 1, "less", Less(), [chain], (chain,)):
            with self.subTest(wrong=wrong):
                self.check_index(lambda: chain >> wrong, 0)
                self.check_index(lambda: wrong >> chain, 0)

    def test_failing_changes_nothing(self):
        chain = Chain(*[Less()] * 8)
        self.check_index(lambda: chain >> chain, 8)
        self.assertEqual(chain, Chain(*[Less()] * 8))

    def test_in_place(self):
        chain = same = Chain(Less())
        chain >>= Chain(Last())
        self.assertEqual([chain.text, same.text], ["less last", "less"])


class OppositeTest(unittest.TestCase):
    def test_opposite(self):
        chain = Chain(Cell(), Last(), Less(), Greater(), Near(5), Near(-5), Near(0))
        self.assertEqual((-chain).text, "first last greater less near:-5 near:5 near:0")
        self.assertEqual(chain.text, "first last less greater near:5 near:-5 near:0")
        self.assertEqual(-(-chain), chain)


class EqualTest(unittest.TestCase):
    def test_equal(self):
        texts = ["less", "last", "less last", "last less", "less last less", "near:1", "near:-1", "near:1 less"]
        for one in texts:
            for other in texts:
                with self.subTest(one=one, other=other):
                    self.assertIs(Chain.parse(one) == Chain.parse(other), one == other)
                    self.assertIs(Chain.parse(one) != Chain.parse(other), one != other)

    def test_nothing_else_is_equal(self):
        chain = Chain(Less())
        for other in NO_INTEGERS + (0, 1, "less", Less(), (Less(),), [Less()], [chain], (chain,)):
            with self.subTest(other=other):
                self.assertIs(chain == other, False)
                self.assertIs(other == chain, False)
                self.assertIs(chain != other, True)

    def test_the_given_list_does_not_matter_later(self):
        cells = [Less(), Last()]
        chain = Chain(*cells)
        cells[0] = Greater()
        self.assertEqual(chain.text, "less last")


if __name__ == "__main__":
    unittest.main()
