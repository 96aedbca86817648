"""Point 1 over the whole: a hundred different things in a thing, sixteen deep, twenty parts, twenty deeds, and beyond."""

import unittest

from follow import follow, try_world
from samebook.book import answers, told_after, world
from samebook.things import all_things
from samebook.worlds import holds, value

A = ("a",)
B = ("b",)
C = ("c",)


def nested(depth, width, bottom=A):
    """A thing so many deep, whose parts are at each step one thing, `width` times."""
    thing = bottom
    for step in range(depth - 1):
        thing = ("f",) + (thing,) * width
    return thing


def woven(bottom):
    """A thing with a hundred different things in it, sixteen deep, with twenty parts in each but the bottom."""
    pool = [bottom]
    layer = [bottom]
    for step in range(14):
        layer = [(word,) + twenty_of(layer, pool, start) for start, word in enumerate("fghijkl")]
        pool = pool + layer
    return ("f",) + twenty_of(layer, pool, 0)


def twenty_of(layer, pool, start):
    """All things of a layer, and others from the pool."""
    return tuple(layer + [pool[(start + 5 * k) % len(pool)] for k in range(20 - len(layer))])


def words(count):
    return [("w" + chr(97 + k // 26) + chr(97 + k % 26),) for k in range(count)]


class Bounds(unittest.TestCase):
    def test_the_things_here_are_as_large_as_they_should_be(self):
        things = all_things([woven(A)])
        self.assertEqual(len(things), 100)
        self.assertEqual([len(thing) for thing in things], [1] + [21] * 99)
        depth = 1
        thing = woven(A)
        while thing != A:
            thing = thing[1]
            depth += 1
        self.assertEqual(depth, 16)

    def test_a_hundred_different_things(self):
        leaves = words(20)
        tops = [woven(leaf) for leaf in leaves]
        deeds = [("unlike", tops[k], C) for k in range(8)]
        deeds += [("same", leaves[k], leaves[k + 1]) for k in range(8)]
        deeds += [("ask", tops[0], tops[8]), ("ask", tops[11], tops[2]), ("ask", tops[7], C), ("same", C, tops[8])]
        found = answers(deeds)
        told = deeds[:16]
        self.assertEqual(found[:16], list(range(1, 17)))
        self.assertEqual([answer[0] for answer in found[16:]], ["equal", "open", "unlike", "clash"])
        follow(found[16][1], told, None, (tops[0], tops[8]))
        for rows in found[17][1:]:
            try_world(rows, told)
        self.assertNotEqual(value(found[17][1], tops[11]), value(found[17][1], tops[2]))
        self.assertEqual(value(found[17][2], tops[11]), value(found[17][2], tops[2]))
        follow(found[18][2], told, (tops[7], C), told[found[18][1]][1:])
        self.assertEqual(found[19][1], 0)
        follow(found[19][2], told + deeds[19:], None, (tops[0], C))
        self.assertEqual(told_after(deeds), told)
        try_world(world(deeds), told)

    def test_sixteen_deep_with_twenty_parts_at_each_step(self):
        one = nested(16, 20)
        other = nested(16, 20, B)
        deeds = [("ask", one, other), ("same", A, B), ("ask", one, other), ("unlike", one, C), ("ask", other, C)]
        found = answers(deeds)
        self.assertEqual([found[0][0], found[1], found[2][0], found[3], found[4][0]], ["open", 1, "equal", 2, "unlike"])
        follow(found[2][1], deeds[1:2], None, (one, other))
        follow(found[4][2], [deeds[1], deeds[3]], (other, C), (one, C))
        self.assertLess(len(found[2][1]), 100)
        self.assertNotEqual(value(found[0][1], one), value(found[0][1], other))
        self.assertEqual(value(found[0][2], one), value(found[0][2], other))
        self.assertTrue(holds(world(deeds), [deeds[1], deeds[3]]))

    def test_such_things_built_anew_for_each_deed(self):
        deeds = [
            ("unlike", nested(16, 20), nested(16, 20, B)), ("ask", nested(16, 20), nested(16, 20)),
            ("ask", nested(9, 20), nested(9, 20, B)), ("same", nested(12, 20, B), nested(12, 20)),
            ("ask", nested(17, 20), nested(17, 20, B)),
        ]
        found = answers(deeds)
        self.assertEqual([found[0], found[1][0], found[2][0], found[3][:2], found[4][0]],
                         [1, "equal", "unlike", ("clash", 0), "open"])
        self.assertEqual(len(all_things([nested(16, 20), nested(16, 20)])), 16)
        self.assertEqual(value(world(deeds), nested(16, 20)), value(world(deeds), nested(16, 20)))

    def test_somewhat_beyond(self):
        for depth in (17, 40, 150):
            deeds = [("same", A, B), ("ask", nested(depth, 1), nested(depth, 1, B)), ("ask", nested(depth, 25), B)]
            found = answers(deeds)
            self.assertEqual([answer[0] for answer in found[1:]], ["equal", "open"])
            follow(found[1][1], deeds[:1], None, deeds[1][1:])

    def test_many_deeds(self):
        leaves = words(60)
        deeds = [("same", one, other) for one, other in zip(leaves, leaves[1:])]
        found = answers(deeds + [("ask", leaves[0], leaves[-1]), ("unlike", ("f", leaves[5]), ("f", leaves[50]))])
        self.assertEqual(found[:59], list(range(1, 60)))
        follow(found[59][1], deeds, None, (leaves[0], leaves[-1]))
        self.assertEqual(found[60][:2], ("clash", 59))
        follow(found[60][2], deeds, None, (("f", leaves[5]), ("f", leaves[50])))

    def test_one_brings_on_hundreds(self):
        # Each of the things is the same as the next one only behind the one ahead of it.
        long = nested(250, 1)
        deeds = [("same", A, ("f", A)), ("ask", long, A), ("unlike", long, A)]
        found = answers(deeds)
        self.assertEqual([found[0], found[1][0], found[2][:2]], [1, "equal", ("clash", 1)])
        follow(found[1][1], deeds[:1], None, (long, A))
        towers = [("same", nested(100, 1), A), ("same", nested(98, 1), A), ("ask", A, ("f", A)), ("ask", A, nested(57, 1))]
        found = answers(towers)
        self.assertEqual([found[2][0], found[3][0]], ["equal", "equal"])
        follow(found[2][1], towers[:2], None, towers[2][1:])
        follow(found[3][1], towers[:2], None, towers[3][1:])


if __name__ == "__main__":
    unittest.main()
