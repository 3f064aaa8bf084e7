"""Point 8: a rule that is not known."""

import itertools
import unittest

from siftchain.cells import Chain
from siftchain.errors import Contradiction, InvalidNumber, InvalidRow, UnknownCell
from siftchain.hidden import Observer
from tests.model import RULES, best, rules_left, run
from tests.values import BIG, HUGE, NO_INTEGERS

TEXTS = ("less", "near:3", "less less", "first last", "greater near:2", "last first greater", "less near:1 last less")
ROWS = ([5, 3, 4, 1, 6], [1, 2, 3, 4, 5], [2, 2, 2, 1], [4, 0, 4, 0, 2, 3])


def watch(text="less less", index=0):
    return Observer(Chain.parse(text), index)


def state(observer):
    """All that can be read of an observer."""
    return observer.possible, observer.history, observer.best_number([3, 9, 1, 4])


def cases():
    """Yield chains with an index, a rule there and what comes out for a row."""
    for text in TEXTS:
        labels = text.split(" ")
        for index, rule in itertools.product(range(len(labels)), RULES):
            for row in ROWS:
                tried = [*labels[:index], rule, *labels[index + 1:]]
                yield labels, index, rule, list(zip(row, run(tried, row)[1]))


class IndexTest(unittest.TestCase):
    def test_right_ones(self):
        for index in range(3):
            self.assertEqual(watch("less near:2 last", index).possible, list(RULES))
        self.assertEqual(watch(" ".join(["less"] * 8), 7).possible, list(RULES))

    def test_wrong_ones(self):
        for text in ("less", "less less", "last last last last last last last last"):
            many = len(text.split(" "))
            for index in (-HUGE, -many, -1, many, many + 1, HUGE):
                with self.subTest(text=text, index=index), self.assertRaises(UnknownCell):
                    watch(text, index)

    def test_no_integers(self):
        for index in NO_INTEGERS:
            with self.subTest(index=index), self.assertRaises(UnknownCell):
                watch("less less", index)


class SeeTest(unittest.TestCase):
    def test_against_the_model(self):
        for labels, index, rule, pairs in cases():
            observer = watch(" ".join(labels), index)
            for at, (number, out) in enumerate(pairs):
                left = rules_left(labels, index, pairs[:at + 1])
                self.assertEqual(observer.see(number, out), len(left))
                self.assertEqual(observer.possible, left)
                self.assertIn(rule, left)
                self.assertEqual(observer.history, pairs[:at + 1])

    def test_each_out_at_each_time(self):
        """Also outs that contradict, after which all is as before."""
        for labels, index, rule, pairs in cases():
            observer = watch(" ".join(labels), index)
            for at, (number, out) in enumerate(pairs):
                for other in (None, 0, 1, 2, 3, 4, 5, 6, 7):
                    if not rules_left(labels, index, pairs[:at] + [(number, other)]):
                        before = observer.possible, observer.history
                        with self.assertRaises(Contradiction):
                            observer.see(number, other)
                        self.assertEqual((observer.possible, observer.history), before)
                self.assertEqual(observer.see(number, out), len(rules_left(labels, index, pairs[:at + 1])))

    def test_the_given_rule_does_not_matter(self):
        for label in ("first", "greater", "last", "less", "near:7"):
            observer = watch(f"{label} less", 0)
            self.assertEqual([observer.see(5, None), observer.see(3, None), observer.see(4, 5)], [4, 4, 2])
            self.assertEqual(observer.possible, ["last", "less"])

    def test_one_rule_is_left(self):
        observer = watch("first")
        self.assertEqual([observer.see(5, None), observer.see(3, 5), observer.see(4, 3)], [4, 2, 1])
        self.assertEqual(observer.possible, ["last"])
        self.assertEqual(observer.see(4, 4), 1)
        with self.assertRaises(Contradiction):
            observer.see(2, 2)
        self.assertEqual(observer.history, [(5, None), (3, 5), (4, 3), (4, 4)])

    def test_numbers(self):
        observer = watch("first")
        for wrong in NO_INTEGERS + (BIG + 1, -BIG - 1, HUGE):
            for out in (None, 5, wrong):
                with self.subTest(wrong=wrong, out=out), self.assertRaises(InvalidNumber):
                    observer.see(wrong, out)
        self.assertEqual(observer.history, [])
        self.assertEqual([observer.see(BIG, None), observer.see(-BIG, BIG)], [4, 2])

    def test_outs_that_no_rule_lets_out(self):
        observer = watch("first")
        for wrong in (True, False, 0, 5, "", (), [], "a", (None,), [None]):
            with self.subTest(wrong=wrong), self.assertRaises(Contradiction):
                observer.see(1, wrong)
        self.assertEqual(observer.see(1, None), 4)
        for wrong in (None, True, False, 3, "1", (1,), [1], BIG + 1, HUGE):
            with self.subTest(wrong=wrong), self.assertRaises(Contradiction):
                observer.see(1, wrong)
        self.assertEqual(observer.see(1, 1), 4)
        self.assertEqual(observer.history, [(1, None), (1, 1)])

    def test_a_number_that_contradicts_has_not_come_in(self):
        observer = watch("less less", 1)
        observer.see_all((5, None), (3, None))
        before = state(observer)
        for number in (1, 4, 9):
            with self.assertRaises(Contradiction):
                observer.see(number, 77)
            self.assertEqual(state(observer), before)
        self.assertEqual(observer.see(4, 5), 2)
        self.assertEqual(observer.possible, ["last", "less"])


class SeeAllTest(unittest.TestCase):
    def test_none(self):
        observer = watch()
        self.assertEqual(observer.see_all(), 4)
        observer.see_all((5, None), (3, None), (4, 5))
        self.assertEqual(observer.see_all(), 2)
        self.assertEqual(observer.history, [(5, None), (3, None), (4, 5)])

    def test_the_same_as_one_after_another(self):
        for labels, index, rule, pairs in cases():
            observer = watch(" ".join(labels), index)
            self.assertEqual(observer.see_all(*pairs), len(rules_left(labels, index, pairs)))
            self.assertEqual(observer.possible, rules_left(labels, index, pairs))
            self.assertEqual(observer.history, pairs)

    def test_several_calls(self):
        observer = watch()
        self.assertEqual(observer.see_all((5, None), (3, None)), 4)
        self.assertEqual(observer.see(4, 5), 2)
        self.assertEqual(observer.see_all((2, 4)), 2)
        self.assertEqual(observer.history, [(5, None), (3, None), (4, 5), (2, 4)])

    def check_fails(self, error, *pairs):
        for start in ([], [(6, None)], [(6, None), (2, None)]):
            observer = watch("less last less", 1)
            observer.see_all(*start)
            before = state(observer)
            with self.subTest(pairs=pairs, start=start), self.assertRaises(error):
                observer.see_all(*pairs)
            self.assertEqual(state(observer), before)
            self.assertEqual(observer.see_all(), 4)

    def test_one_contradicts(self):
        self.check_fails(Contradiction, (5, 77))
        self.check_fails(Contradiction, (5, 77), (3, None))
        self.check_fails(Contradiction, (5, None), (3, 77), (4, 5))

    def test_one_has_a_wrong_number(self):
        for wrong in NO_INTEGERS + (BIG + 1, HUGE):
            self.check_fails(InvalidNumber, (wrong, None))
            self.check_fails(InvalidNumber, (5, None), (wrong, None), (4, None))

    def test_the_first_error_counts(self):
        self.check_fails(Contradiction, (5, 77), ("a", None))
        self.check_fails(InvalidNumber, (True, None), (5, 77))
        self.check_fails(InvalidNumber, (None, 77))

    def test_no_pairs(self):
        for wrong in (True, None, 5, "ab", (), (5,), (5, None, None), [5, None]):
            self.check_fails(InvalidNumber, wrong)
            self.check_fails(InvalidNumber, (5, None), wrong)

    def test_the_last_one_contradicts(self):
        observer = watch("first")
        observer.see(5, None)
        with self.assertRaises(Contradiction):
            observer.see_all((3, 5), (4, 3), (6, 6))
        self.assertEqual(observer.history, [(5, None)])
        self.assertEqual(observer.possible, list(RULES))
        self.assertEqual(observer.see(9, 9), 2)
        self.assertEqual(observer.possible, ["first", "less"])


class ReadingTest(unittest.TestCase):
    def test_at_first(self):
        observer = watch()
        self.assertEqual(observer.possible, ["first", "greater", "last", "less"])
        self.assertEqual(observer.history, [])

    def test_lists_are_new(self):
        observer = watch()
        observer.see_all((5, None), (3, None), (4, 5))
        observer.possible.append("near")
        observer.possible.clear()
        observer.history.append((1, 1))
        observer.history.clear()
        self.assertIsNot(observer.possible, observer.possible)
        self.assertIsNot(observer.history, observer.history)
        self.assertEqual(observer.possible, ["last", "less"])
        self.assertEqual(observer.history, [(5, None), (3, None), (4, 5)])
        self.assertEqual(observer.see(3, 4), 2)

    def test_kinds_of_values(self):
        observer = watch()
        observer.see(5, None)
        observer.see_all((3, None))
        self.assertIsInstance(observer.possible, list)
        self.assertIsInstance(observer.history, list)
        for pair in observer.history:
            self.assertIsInstance(pair, tuple)

    def test_the_chain_stays(self):
        chain = Chain.parse("less near:2")
        observer = Observer(chain, 1)
        observer.see_all((5, None), (3, None), (4, 5))
        self.assertEqual(chain.text, "less near:2")


class BestTest(unittest.TestCase):
    def test_against_the_model(self):
        for labels, index, rule, pairs in cases():
            observer = watch(" ".join(labels), index)
            for at, (number, out) in enumerate(pairs):
                for numbers in ([0, 2, 3, 9], [9, 5, 4, 3, 2, 1], [3], [4, 4, 1]):
                    wanted = best(labels, index, pairs[:at], numbers)
                    self.assertEqual(observer.best_number(numbers), wanted)
                observer.see(number, out)

    def test_the_first_of_equally_good_ones(self):
        observer = watch("first")
        self.assertEqual(observer.best_number([7, 3, 5]), 7)
        observer.see(5, None)
        self.assertEqual(observer.best_number([5, 7, 3]), 7)
        self.assertEqual(observer.best_number([5, 3, 7]), 3)
        self.assertEqual(observer.best_number([5, 5]), 5)

    def test_it_changes_nothing(self):
        observer = watch()
        observer.see_all((5, None), (3, None))
        numbers = [9, 3, 1]
        before = observer.possible, observer.history
        first = observer.best_number(numbers)
        self.assertEqual(observer.best_number(numbers), first)
        self.assertEqual(numbers, [9, 3, 1])
        self.assertEqual((observer.possible, observer.history), before)
        self.assertEqual(observer.see(4, 5), 2)

    def check_index(self, numbers, index):
        observer = watch()
        observer.see(5, None)
        with self.subTest(numbers=numbers):
            with self.assertRaises(InvalidRow) as caught:
                observer.best_number(numbers)
            self.assertEqual(caught.exception.index, index)
        self.assertEqual(observer.history, [(5, None)])

    def test_wrong_lists(self):
        self.check_index([], 0)
        for wrong in NO_INTEGERS + (BIG + 1, -BIG - 1, HUGE):
            self.check_index([wrong], 0)
            self.check_index([1, 2, wrong, None], 2)
        for wrong in (True, False, None, 0, 5, "", "12", (), (1, 2)):
            self.check_index(wrong, 0)

    def test_lengths(self):
        observer = watch("first")
        observer.see(5, None)
        self.assertEqual(observer.best_number([5] * 999 + [4]), 4)
        self.check_index([5] * 1001, 1000)
        self.check_index([5] * 1000 + ["a"], 1000)
        self.check_index([5] * 999 + ["a", 5], 999)


if __name__ == "__main__":
    unittest.main()
