"""Points 1, 3 and 11: equal things that stand in one thing, were built apart, and are long when written out.

Two such things can't be compared in a test either: here things are known by their objects.
"""

import faulthandler
import random
import unittest

from follow import follow, try_world
from samebook.book import answers, told_after, world
from samebook.errors import NoRow
from samebook.things import all_things
from samebook.worlds import holds, value

A = ("a",)
B = ("b",)
C = ("c",)
SECONDS = 120


def tower(steps, parts, bottom=A):
    """f of one thing, so many times over. Each call builds it anew."""
    thing = bottom
    for step in range(steps):
        thing = ("f",) + (thing,) * parts
    return thing


def g(*parts):
    return ("g",) + parts


def pair(steps=14, parts=20, bottom=A):
    return g(tower(steps, parts, bottom), tower(steps, parts, bottom))


def pairs(depth, steps):
    """Pairs of pairs, so many deep, and a tower of its own at each end."""
    return tower(steps, 20) if depth == 0 else g(pairs(depth - 1, steps), pairs(depth - 1, steps))


def chain(count, steps):
    """A thing with a tower of its own at each of its steps."""
    thing = tower(steps, 20)
    for step in range(count):
        thing = ("k", tower(steps, 20), thing)
    return thing


def crossed(steps, parts):
    """Two equal things, whose parts at each step are two things by turns, in the one in this order, in the other not."""
    one, other = tuple(["a"]), tuple(["a"])
    for step in range(steps):
        first = [(one, other)[k % 2] for k in range(parts)]
        second = [(other, one)[k % 2] for k in range(parts)]
        one, other = ("f",) + tuple(first), ("f",) + tuple(second)
    return g(one, other)


def drawn(steps, parts, copies, seed):
    """A thing with an f and an h at each step, and of both some copies; which of these are parts is drawn."""
    draw = random.Random(seed)
    layer = [[tuple(["a"]) for copy in range(copies)]] * 2
    for step in range(steps):
        layer = [[(word,) + tuple(draw.choice(layer[k % 2]) for k in range(parts)) for copy in range(copies)]
                 for word in "fh"]
    return g(*layer[0], *layer[1])


def layered(steps, parts, bottom=A):
    """A thing with six others at each step; each of these has parts of the step below, `parts` tells how many."""
    words = "bcdehk"
    layer = [bottom] + [(word,) for word in words[1:]]
    for step in range(steps):
        count = parts[step % len(parts)]
        layer = [(word,) + tuple((layer * 4)[k:k + count]) for k, word in enumerate(words)]
    return ("top",) + tuple(layer)


class Shared:
    """Things built anew, so that equal ones are one object and comparing them takes no time."""

    def __init__(self):
        self.by_object = {}
        self.by_form = {}
        self.kept = []

    def thing(self, thing):
        if id(thing) not in self.by_object:
            parts = [self.thing(part) for part in thing[1:]]
            form = (thing[0],) + tuple(id(part) for part in parts)
            self.by_object[id(thing)] = self.by_form.setdefault(form, (thing[0],) + tuple(parts))
            # A thing that is gone would leave its number to another one.
            self.kept.append(thing)
        return self.by_object[id(thing)]

    def lines(self, lines):
        return [(self.thing(one), self.thing(other), reason) for one, other, reason in lines]

    def deed(self, deed):
        return deed if deed[0] == "back" else (deed[0], self.thing(deed[1]), self.thing(deed[2]))


class Watched(unittest.TestCase):
    """A comparison that is too long can't be broken off, so the whole run is, with a failure."""

    def setUp(self):
        faulthandler.dump_traceback_later(SECONDS, exit=True)

    def tearDown(self):
        faulthandler.cancel_dump_traceback_later()


class AllThings(Watched):
    def check(self, *things):
        """The things found are the right ones, in their order."""
        shared = Shared()
        for thing in things:
            shared.thing(thing)
        expected = list(shared.by_form.values())
        found = all_things(list(things))
        self.assertEqual([id(shared.thing(thing)) for thing in found], [id(thing) for thing in expected])
        return len(found)

    def test_a_pair(self):
        for steps in (1, 4, 5, 6, 10, 13, 14, 16):
            for parts in (1, 2, 3, 4, 5, 7, 12, 20, 22):
                with self.subTest(steps=steps, parts=parts):
                    self.assertEqual(self.check(pair(steps, parts)), steps + 2)

    def test_several_pairs(self):
        self.assertEqual(self.check(pair(), A, pair(), tower(14, 20), pair(14, 20, B)), 32)

    def test_many_parts_of_the_whole_thing(self):
        self.assertEqual(self.check(("g",) + tuple(tower(14, 20) for part in range(20))), 16)
        self.assertEqual(self.check(("g",) + (tower(14, 20),) * 10 + (tower(14, 20),) * 10), 16)
        self.assertEqual(self.check(("g",) + (tower(14, 20),) * 19 + (tower(14, 20),)), 16)
        self.assertEqual(self.check(("g",) + (tower(14, 20), tower(14, 20)) * 10), 16)
        self.assertEqual(self.check(("g",) + (tower(14, 20), tower(14, 20), B, C) * 5), 18)

    def test_many_parts_near_the_top(self):
        self.assertEqual(self.check(("h", ("g",) + tuple(tower(13, 20) for part in range(20)))), 16)
        self.assertEqual(self.check(g(*[("h",) + tuple(tower(13, 20) for part in range(20)) for one in range(2)])), 16)

    def test_in_different_functions(self):
        self.assertEqual(self.check(g(("h", tower(13, 20)), ("k", tower(13, 20)))), 17)
        self.assertEqual(self.check(g(tower(13, 20), ("h", tower(13, 20)), ("h", tower(13, 20), A))), 17)
        self.assertEqual(self.check(("g",) + tuple((word, tower(13, 20)) for word in "bcdehk")), 21)

    def test_of_different_heights(self):
        self.assertEqual(self.check(g(tower(14, 20), tower(13, 20), tower(12, 20))), 16)
        self.assertEqual(self.check(g(tower(9, 20), tower(11, 20), A, tower(14, 20))), 16)

    def test_that_differ_below(self):
        self.assertEqual(self.check(g(tower(14, 20), tower(14, 20, B))), 31)
        one = g(tower(6, 20), tower(6, 20, B))
        other = g(tower(6, 20, B), tower(6, 20))
        self.assertEqual(self.check(("h", tower(7, 20, one), tower(7, 20, other))), 31)

    def test_below_what_is_shared(self):
        for steps in range(1, 14):
            for parts in (1, 2, 3, 4, 5, 8, 20):
                with self.subTest(steps=steps, parts=parts):
                    self.assertEqual(self.check(tower(steps, parts, pair(14 - steps))), 16)

    def test_several_below_what_is_shared(self):
        for count in (2, 3, 4, 5, 6):
            with self.subTest(count=count):
                self.assertEqual(self.check(tower(5, 20, g(*[tower(9, 20) for part in range(count)]))), 16)
        self.assertEqual(self.check(tower(5, 20, g(("h", tower(8, 20)), ("k", tower(8, 20))))), 17)
        self.assertEqual(self.check(tower(4, 20, pairs(2, 9))), 16)
        among_others = (tower(9, 20),) + tuple((word,) for word in "bcdehijklmnopqrstu") + (tower(9, 20),)
        self.assertEqual(self.check(tower(5, 20, g(*among_others))), 34)

    def test_below_what_is_wide(self):
        for steps in (3, 6, 9):
            with self.subTest(steps=steps):
                self.check(layered(steps, [20], pair(13 - steps)))

    def test_wide_things(self):
        for parts in ([2], [3], [4], [6], [20], [2, 20], [4, 6]):
            with self.subTest(parts=parts):
                self.assertEqual(self.check(g(layered(13, parts), layered(13, parts))), 86)
                self.check(tower(3, 20, g(layered(10, parts), layered(10, parts))))

    def test_at_many_steps(self):
        self.assertEqual(self.check(pairs(4, 11)), 16)
        self.assertEqual(self.check(chain(7, 8)), 16)
        self.assertEqual(self.check(chain(13, 2)), 16)

    def test_at_every_step(self):
        for parts in (1, 2, 3):
            with self.subTest(parts=parts):
                self.assertEqual(self.check(crossed(14, parts)), 16)
        for parts in (2, 3, 4):
            for copies in (2, 3, 5):
                with self.subTest(parts=parts, copies=copies):
                    self.assertEqual(self.check(drawn(13, parts, copies, parts)), 28)
        self.assertEqual(self.check(crossed(5, 20)), 7)
        self.check(drawn(4, 20, 3, 1))

    def test_walking_anew_has_an_end(self):
        for parts in (2, 3, 4, 5, 20):
            with self.subTest(parts=parts):
                self.assertEqual(self.check(tower(39, parts)), 40)
        for parts in ([2, 6], [3, 20], [4, 4, 20], [20, 4, 4], [2, 20], [4], [20]):
            with self.subTest(parts=parts):
                self.assertEqual(self.check(layered(15, parts)), 97)
                self.check(layered(24, parts))


class Worlds(Watched):
    ROWS = [("a", [], 0), ("b", [], 16)] + [("f", [k] * 20, k + 1) for k in range(14)] + [("g", [14, 14], 15)]

    def test_value(self):
        self.assertEqual(value(self.ROWS, pair()), 15)
        self.assertEqual(value(self.ROWS + [("h", [15, 16, 15], 3)], ("h", pair(), B, pair())), 3)

    def test_holds(self):
        self.assertIs(holds(self.ROWS, [("same", pair(), pair()), ("unlike", pair(), tower(14, 20))]), True)
        self.assertIs(holds(self.ROWS, [("unlike", pair(), pair())]), False)
        self.assertIs(holds(self.ROWS, [("same", A, A), ("same", pair(), B)]), False)

    def test_no_row(self):
        for rows in (self.ROWS[1:], self.ROWS[:5] + self.ROWS[6:], self.ROWS[:-1]):
            with self.assertRaises(NoRow):
                value(rows, pair())
            with self.assertRaises(NoRow):
                holds(rows, [("unlike", B, B), ("same", B, pair())])


class Books(Watched):
    def check(self, deeds, expected):
        """The kinds of the answers, and their lines and worlds held against the document."""
        shared = Shared()
        told = []
        found = answers(deeds)
        for deed, answer in zip([shared.deed(deed) for deed in deeds], found):
            if deed[0] == "back":
                told = told[:deed[1]]
            elif isinstance(answer, int):
                told = told + [deed]
            elif answer[0] == "clash":
                follow(shared.lines(answer[2]), told + [deed], None, (told + [deed])[answer[1]][1:])
            elif answer[0] == "equal":
                follow(shared.lines(answer[1]), told, None, deed[1:])
            elif answer[0] == "unlike":
                follow(shared.lines(answer[2]), told, deed[1:], told[answer[1]][1:])
            else:
                self.check_open(answer, told, deed)
        self.assertEqual([answer if isinstance(answer, int) else answer[0] for answer in found], expected)
        self.assertEqual([shared.deed(entry) for entry in told_after(deeds)], told)
        try_world(world(deeds), told)

    def check_open(self, answer, told, deed):
        for rows in answer[1:]:
            try_world(rows, told)
        self.assertNotEqual(value(answer[1], deed[1]), value(answer[1], deed[2]))
        self.assertEqual(value(answer[2], deed[1]), value(answer[2], deed[2]))

    def test_the_deeds(self):
        self.check([
            ("unlike", pair(), B), ("ask", pair(), pair()), ("ask", A, ("h", pair())), ("same", A, pair()),
            ("ask", pair(), A), ("ask", B, A), ("same", B, A), ("ask", ("h", pair()), ("h", A)), ("back", 1),
            ("ask", A, pair()), ("unlike", pair(), pair()),
        ], [1, "equal", "open", 2, "equal", "unlike", "clash", "equal", 1, "open", "clash"])

    def test_what_follows_from_their_parts(self):
        self.check([
            ("ask", pair(), pair(14, 20, B)), ("unlike", C, pair()), ("same", A, B), ("ask", pair(), pair(14, 20, B)),
            ("ask", pair(14, 20, B), C), ("same", C, g(tower(14, 20), tower(14, 20, B))), ("back", 1),
            ("unlike", pair(), pair(14, 20, B)), ("ask", B, A), ("same", tower(3, 20), tower(3, 20, B)),
        ], ["open", 1, 2, "equal", "unlike", "clash", 1, 2, "unlike", "clash"])

    def test_below_what_is_shared(self):
        def thing(bottom):
            return tower(7, 20, pair(7, 20, bottom))

        self.check([
            ("unlike", thing(A), thing(B)), ("ask", tower(2, 20), tower(2, 20, B)), ("ask", thing(A), thing(C)),
            ("same", A, B), ("same", C, A), ("ask", thing(C), thing(A)), ("ask", thing(C), thing(B)),
        ], [1, "unlike", "open", "clash", 2, "equal", "unlike"])


if __name__ == "__main__":
    unittest.main()
