"""The checks of follow.py see what is wrong, so that the tests that lean on them mean something."""

import unittest

from follow import Wrong, check_book, clashes, follow, try_world, verdict
from samebook.errors import NoRow

A = ("a",)
B = ("b",)
C = ("c",)
FA = ("f", A)
FB = ("f", B)
TOLD = [("same", A, B), ("unlike", A, C), ("same", B, C)]
AB = (A, B, ("told", 0))
BA = (B, A, ("turn", 0))


class Follow(unittest.TestCase):
    def test_right_lines(self):
        for lines, asked, goal in [
            ([AB], None, (A, B)),
            ([AB, BA], None, (B, A)),
            ([AB, (FA, FB, ("like", [0]))], None, (FA, FB)),
            ([(A, A, ("chain", []))], None, (A, A)),
            ([AB, (B, C, ("told", 2)), (A, C, ("chain", [0, 1]))], None, (A, C)),
            ([(FA, C, ("asked",))], (FA, C), (FA, C)),
        ]:
            with self.subTest(lines=lines):
                follow(lines, TOLD, asked, goal)

    def test_wrong_lines(self):
        for lines, asked, goal in [
            ([], None, (A, B)),
            ((AB,), None, (A, B)),
            ([AB], None, (B, A)),
            ([AB, BA], None, (A, B)),
            ([(B, A, ("told", 0))], None, (B, A)),
            ([(A, C, ("told", 1))], None, (A, C)),
            ([(A, B, ("told", 3))], None, (A, B)),
            ([(B, C, ("told", -1))], None, (B, C)),
            ([(A, B, ("told", False))], None, (A, B)),
            ([(A, B, ("told",))], None, (A, B)),
            ([AB, (B, A, ("turn", 1))], None, (B, A)),
            ([AB, (A, B, ("turn", 0))], None, (A, B)),
            ([AB, (B, A, ("turn", -1))], None, (B, A)),
            ([(A, B, ("chain", []))], None, (A, B)),
            ([AB, (A, C, ("chain", [0]))], None, (A, C)),
            ([AB, (B, B, ("chain", [0]))], None, (B, B)),
            ([AB, (A, B, ("chain", (0,)))], None, (A, B)),
            ([AB, (A, B, ("chain", [1]))], None, (A, B)),
            ([AB, (FA, FB, ("like", []))], None, (FA, FB)),
            ([AB, (FA, FB, ("like", [0, 0]))], None, (FA, FB)),
            ([AB, (FB, FA, ("like", [0]))], None, (FB, FA)),
            ([AB, (FA, ("g", B), ("like", [0]))], None, (FA, ("g", B))),
            ([AB, (FA, FB, ("like", (0,)))], None, (FA, FB)),
            ([(FA, C, ("asked",))], None, (FA, C)),
            ([(FA, C, ("asked",))], (C, FA), (FA, C)),
            ([(FA, C, ("asked", 0))], (FA, C), (FA, C)),
            ([(FA, C, ("known",))], (FA, C), (FA, C)),
        ]:
            with self.subTest(lines=lines):
                with self.assertRaises(Wrong):
                    follow(lines, TOLD, asked, goal)


class TryWorld(unittest.TestCase):
    def test_worlds(self):
        told = [("same", A, B), ("unlike", A, C)]
        rows = [("a", [], 0), ("b", [], 0), ("c", [], 1)]
        try_world(rows, told)
        for wrong in [
            tuple(rows),
            rows + [("a", [], 0)],
            rows[:2] + [("c", [], 0)],
            rows[:2] + [("c", (), 1)],
            rows[:2] + [["c", [], 1]],
            rows[:2] + [("c", [], -1)],
            rows[:2] + [("c", [], True)],
        ]:
            with self.subTest(wrong=wrong):
                with self.assertRaises(Wrong):
                    try_world(wrong, told)
        with self.assertRaises(NoRow):
            try_world(rows[:2], told)


class Verdict(unittest.TestCase):
    def test_equal_unlike_open(self):
        told = [("same", A, B), ("unlike", FA, C)]
        for one, other, expected in [
            (A, A, "equal"), (A, B, "equal"), (B, A, "equal"), (FA, FB, "equal"), (("g", FA), ("g", FB), "equal"),
            (FA, C, "unlike"), (C, FB, "unlike"), (A, C, "open"), (FA, A, "open"), (("g", FA), ("g", C), "open"),
            (("h",), ("k",), "open"), (FA, ("f", A, A), "open"),
        ]:
            with self.subTest(one=one, other=other):
                self.assertEqual(verdict(told, one, other), expected)

    def test_unlike_by_functions(self):
        self.assertEqual(verdict([("unlike", FA, FB)], A, B), "unlike")

    def test_clashes(self):
        self.assertEqual(clashes([("unlike", FA, FB), ("unlike", C, A), ("unlike", B, A), ("same", A, B)]), [0, 2])


class CheckBook(unittest.TestCase):
    def test_wrong_answers(self):
        deeds = [("same", A, B), ("ask", A, B), ("unlike", A, C), ("same", C, B), ("ask", A, FA), ("back", 3), ("back", 1)]
        chain = [AB, (C, B, ("told", 2)), (B, C, ("turn", 1)), (A, C, ("chain", [0, 2]))]
        apart = [("a", [], 0), ("b", [], 0), ("c", [], 1), ("f", [0], 2)]
        alike = [("a", [], 0), ("b", [], 0), ("c", [], 1), ("f", [0], 0)]
        right = [1, ("equal", [AB]), 2, ("clash", 1, chain), ("open", apart, alike), "no moment", 1]
        self.assertEqual(check_book(deeds, right), [("same", A, B)])
        for place, wrong in [
            (0, 2), (0, True), (0, "1"), (1, ("equal", [])), (1, ("open", apart, alike)), (1, ("equal", [AB], 0)),
            (2, 1), (3, 3), (3, ("clash", 2, chain)), (3, ("clash", 1, chain[:3])), (4, ("open", alike, apart)),
            (4, ("open", apart, apart)), (4, ("open", alike, alike)), (4, ("unlike", 1, chain)), (5, 0), (6, "no moment"),
            (6, 2),
        ]:
            with self.subTest(place=place, wrong=wrong):
                with self.assertRaises(Wrong):
                    check_book(deeds, right[:place] + [wrong] + right[place + 1:])
        with self.assertRaises(Wrong):
            check_book(deeds, right[:-1])


if __name__ == "__main__":
    unittest.main()
