"""Points 4 to 7 and 10 to 12 over many small books, always the same ones, held against what follow.py finds anew."""

import random
import unittest

from follow import check_book, try_world
from samebook.book import answers, told_after, world

SHAPES = (("f", 1), ("f", 2), ("g", 1), ("h", 3))


def some_thing(source, words, depth):
    if depth == 0 or source.random() < 0.35:
        return (source.choice(words),)
    word, count = source.choice(SHAPES)
    return (word,) + tuple(some_thing(source, words, depth - 1) for part in range(count))


def some_deed(source, things, weights):
    kind = source.choices(("same", "unlike", "ask", "back"), weights)[0]
    if kind == "back":
        return (kind, source.randrange(-1, 8))
    return (kind, source.choice(things), source.choice(things))


def some_book(seed, weights):
    source = random.Random(seed)
    words = "abcdef"[:source.randrange(1, 7)]
    things = [some_thing(source, words, source.randrange(4)) for count in range(source.randrange(3, 9))]
    return [some_deed(source, things, weights) for count in range(source.randrange(6, 21))]


class ManyBooks(unittest.TestCase):
    def check_books(self, seeds, weights):
        kinds = {}
        for seed in seeds:
            deeds = some_book(seed, weights)
            with self.subTest(seed=seed):
                before = repr(deeds)
                found = answers(deeds)
                told = check_book(deeds, found)
                self.assertEqual(told_after(deeds), told)
                try_world(world(deeds), told)
                self.assertEqual(repr(deeds), before)
            for answer in found:
                kind = answer[0] if isinstance(answer, tuple) else str(answer)
                kinds[kind] = kinds.get(kind, 0) + 1
        return kinds

    def test_books_of_all_deeds(self):
        kinds = self.check_books(range(250), (4, 3, 5, 1))
        for kind in ("equal", "unlike", "open", "clash", "no moment"):
            self.assertGreater(kinds[kind], 40, kind)

    def test_books_with_much_told_the_same(self):
        kinds = self.check_books(range(1000, 1150), (8, 1, 4, 0))
        self.assertGreater(kinds["equal"], 200)

    def test_books_with_much_told_unlike(self):
        kinds = self.check_books(range(2000, 2150), (3, 7, 5, 1))
        self.assertGreater(kinds["clash"], 100)
        self.assertGreater(kinds["unlike"], 40)


if __name__ == "__main__":
    unittest.main()
