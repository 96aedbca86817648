"""Points 1, 8 and 9, and the interface of samebook/worlds.py."""

import copy
import unittest

from samebook.errors import NoRow
from samebook.worlds import holds, value

A = ("a",)
B = ("b",)
C = ("c",)
BIG = 10 ** 59 + 7
ROWS = [("a", [], 3), ("b", [], 0), ("f", [3], 0), ("f", [0], 5), ("f", [3, 0], 8), ("f", [0, 3], 9), ("g", [8, 9], 3)]


class Value(unittest.TestCase):
    def test_without_parts(self):
        self.assertEqual(value(ROWS, A), 3)

    def test_nought(self):
        self.assertEqual(value(ROWS, B), 0)
        self.assertEqual(value(ROWS, ("f", A)), 0)

    def test_one_word_with_different_counts_of_numbers(self):
        rows = [("f", [], 1), ("f", [1], 2), ("f", [1, 1], 3), ("f", [1, 1, 1], 4)]
        leaf = ("f",)
        self.assertEqual(value(rows, leaf), 1)
        self.assertEqual(value(rows, ("f", leaf)), 2)
        self.assertEqual(value(rows, ("f", leaf, leaf)), 3)
        self.assertEqual(value(rows, ("f", leaf, leaf, leaf)), 4)

    def test_order_of_the_parts(self):
        self.assertEqual(value(ROWS, ("f", A, B)), 8)
        self.assertEqual(value(ROWS, ("f", B, A)), 9)

    def test_things_in_things(self):
        self.assertEqual(value(ROWS, ("f", ("f", A))), 5)
        self.assertEqual(value(ROWS, ("g", ("f", A, B), ("f", B, A))), 3)
        self.assertEqual(value(ROWS, ("f", ("g", ("f", A, B), ("f", B, A)), ("f", A))), 8)

    def test_rows_in_any_order(self):
        self.assertEqual(value(list(reversed(ROWS)), ("f", ("f", A))), 5)

    def test_twenty_parts(self):
        leaves = [("p" + chr(97 + k),) for k in range(20)]
        rows = [(leaf[0], [], k) for k, leaf in enumerate(leaves)]
        rows.append(("f", list(range(20)), 41))
        rows.append(("f", list(range(19, -1, -1)), 42))
        self.assertEqual(value(rows, ("f",) + tuple(leaves)), 41)
        self.assertEqual(value(rows, ("f",) + tuple(reversed(leaves))), 42)

    def test_numbers_of_sixty_figures(self):
        rows = [("a", [], BIG), ("f", [BIG], BIG + 1), ("f", [BIG + 1], 10 ** 60 - 1), ("f", [10 ** 60 - 1], 10 ** 65)]
        self.assertEqual(value(rows, A), BIG)
        self.assertEqual(value(rows, ("f", A)), BIG + 1)
        self.assertEqual(value(rows, ("f", ("f", A))), 10 ** 60 - 1)
        self.assertEqual(value(rows, ("f", ("f", ("f", A)))), 10 ** 65)

    def test_words_of_thirty_letters(self):
        word = "abcdefghijklmnopqrstuvwxyzabcd"
        rows = [(word, [], 6), (word[:-1], [], 7), (word, [6], 1)]
        self.assertEqual(value(rows, (word,)), 6)
        self.assertEqual(value(rows, (word, (word,))), 1)

    def test_deep(self):
        rows = [("a", [], 0), ("s", [0], 1), ("s", [1], 2), ("s", [2], 0)]
        for depth in (16, 17, 40, 200):
            thing = A
            for step in range(depth - 1):
                thing = ("s", thing)
            self.assertEqual(value(rows, thing), (depth - 1) % 3)

    def test_sixteen_deep_with_twenty_parts_at_each_step(self):
        rows = [("a", [], 0)]
        thing = A
        for step in range(15):
            thing = ("f",) + (thing,) * 20
            rows.append(("f", [step] * 20, step + 1))
        self.assertEqual(value(rows, thing), 15)

    def test_no_row_for_the_thing(self):
        for rows, thing in [
            ([], A),
            (ROWS, C),
            (ROWS, ("f", A, A)),
            (ROWS, ("f", A, B, B)),
            (ROWS, ("f",)),
            (ROWS, ("a", A)),
            (ROWS, ("h", A)),
            ([("a", [], 1), ("f", [2], 3)], ("f", A)),
        ]:
            with self.subTest(thing=thing):
                with self.assertRaises(NoRow):
                    value(rows, thing)

    def test_no_row_for_a_thing_deep_in_it(self):
        rows = ROWS + [("h", [k], 0) for k in range(10)]
        thing = C
        for step in range(15):
            thing = ("h", thing)
        for wrong in (thing, ("f", thing, A), ("f", A, thing), ("g", ("f", A, B), ("f", B, C))):
            with self.subTest(wrong=wrong):
                with self.assertRaises(NoRow):
                    value(rows, wrong)

    def test_nothing_is_changed(self):
        rows = copy.deepcopy(ROWS)
        value(rows, ("f", ("f", A)))
        self.assertEqual(rows, ROWS)
        with self.assertRaises(NoRow):
            value(rows, ("f", C))
        self.assertEqual(rows, ROWS)


class Holds(unittest.TestCase):
    def test_nothing_told(self):
        self.assertIs(holds(ROWS, []), True)
        self.assertIs(holds([], []), True)

    def test_same(self):
        self.assertIs(holds(ROWS, [("same", B, ("f", A))]), True)
        self.assertIs(holds(ROWS, [("same", ("f", A), B)]), True)
        self.assertIs(holds(ROWS, [("same", A, A)]), True)
        self.assertIs(holds(ROWS, [("same", A, B)]), False)

    def test_unlike(self):
        self.assertIs(holds(ROWS, [("unlike", A, B)]), True)
        self.assertIs(holds(ROWS, [("unlike", ("f", A, B), ("f", B, A))]), True)
        self.assertIs(holds(ROWS, [("unlike", B, ("f", A))]), False)
        self.assertIs(holds(ROWS, [("unlike", A, A)]), False)

    def test_several(self):
        right = [("same", B, ("f", A)), ("unlike", A, B), ("unlike", B, ("f", ("f", A)))]
        self.assertIs(holds(ROWS, right), True)
        for wrong in (("same", A, B), ("unlike", B, ("f", A))):
            for place in range(4):
                with self.subTest(wrong=wrong, place=place):
                    self.assertIs(holds(ROWS, right[:place] + [wrong] + right[place:]), False)

    def test_same_and_unlike_of_the_same_things(self):
        self.assertIs(holds(ROWS, [("same", A, B), ("unlike", A, B)]), False)
        self.assertIs(holds(ROWS, [("unlike", A, B), ("same", A, B)]), False)

    def test_unlike_is_asked_of_each_two_alone(self):
        rows = [("a", [], 1), ("b", [], 2), ("c", [], 1)]
        self.assertIs(holds(rows, [("unlike", A, B), ("unlike", B, C)]), True)

    def test_large_numbers(self):
        rows = [("a", [], BIG), ("b", [], BIG + 1), ("c", [], BIG)]
        self.assertIs(holds(rows, [("same", A, C), ("unlike", A, B)]), True)
        self.assertIs(holds(rows, [("same", A, B)]), False)

    def test_no_row(self):
        for told in [
            [("same", A, C)],
            [("same", C, A)],
            [("unlike", A, C)],
            [("unlike", C, A)],
            [("same", C, C)],
            [("unlike", C, C)],
            [("same", A, A), ("same", A, ("f", ("f", C)))],
        ]:
            with self.subTest(told=told):
                with self.assertRaises(NoRow):
                    holds(ROWS, told)

    def test_no_row_ahead_of_what_does_not_hold(self):
        for first in (("same", A, B), ("unlike", A, A)):
            for last in (("same", A, C), ("same", C, A), ("unlike", C, B), ("unlike", B, ("f", C))):
                with self.subTest(first=first, last=last):
                    with self.assertRaises(NoRow):
                        holds(ROWS, [first, ("same", A, A), last])
                    with self.assertRaises(NoRow):
                        holds(ROWS, [last, first])

    def test_nothing_is_changed(self):
        rows = copy.deepcopy(ROWS)
        told = [("unlike", A, B), ("same", A, B), ("same", ("f", A), B)]
        before = copy.deepcopy(told)
        holds(rows, told)
        self.assertEqual((rows, told), (ROWS, before))
        told.append(("same", C, A))
        before = copy.deepcopy(told)
        with self.assertRaises(NoRow):
            holds(rows, told)
        self.assertEqual((rows, told), (ROWS, before))


if __name__ == "__main__":
    unittest.main()
