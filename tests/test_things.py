"""Points 1 to 3, and the interface of samebook/things.py."""

import copy
import unittest

from samebook.things import all_things, parts_of

A = ("a",)
B = ("b",)
C = ("c",)


def nested(depth, width):
    """A thing so many deep, whose parts are at each step one thing, `width` times."""
    thing = A
    for step in range(depth - 1):
        thing = ("f",) + (thing,) * width
    return thing


def nested_apart(depth):
    """The same as nested(depth, 2), but no two parts are one object."""
    if depth == 1:
        return tuple(["a"])
    return ("f", nested_apart(depth - 1), nested_apart(depth - 1))


def hundred():
    """A thing with a hundred different things in it, and these in the order in which they come first."""
    leaves = [("x" + chr(97 + k // 26) + chr(97 + k % 26),) for k in range(90)]
    order = []
    groups = []
    for k in range(9):
        members = leaves[10 * k:10 * k + 10]
        parts = members + members[:5] + groups[-1:]
        group = ("g",) + tuple(parts)
        order += members + [group]
        groups.append(group)
    whole = ("h",) + tuple(groups) + tuple(leaves[:5])
    return whole, order + [whole]


class PartsOf(unittest.TestCase):
    def test_without_parts(self):
        self.assertEqual(parts_of(A), [A])

    def test_one_part(self):
        self.assertEqual(parts_of(("f", A)), [A, ("f", A)])

    def test_several_parts_in_order_and_itself_last(self):
        first = ("g", A, B)
        second = ("h", C)
        thing = ("f", first, second, B)
        self.assertEqual(parts_of(thing), [A, B, first, C, second, B, thing])

    def test_kind_is_a_list(self):
        self.assertIs(type(parts_of(A)), list)
        self.assertIs(type(parts_of(("f", A))), list)

    def test_as_often_as_they_stand_there(self):
        self.assertEqual(parts_of(("f", A, A, A)), [A, A, A, ("f", A, A, A)])
        inner = ("g", A)
        thing = ("f", inner, A, inner)
        self.assertEqual(parts_of(thing), [A, inner, A, A, inner, thing])

    def test_twenty_parts(self):
        parts = [("p" + chr(97 + k),) for k in range(20)]
        thing = ("f",) + tuple(parts)
        self.assertEqual(parts_of(thing), parts + [thing])

    def test_somewhat_more_than_twenty_parts(self):
        thing = ("f",) + (A,) * 25
        self.assertEqual(parts_of(thing), [A] * 25 + [thing])

    def test_one_word_with_one_and_two_parts(self):
        one = ("f", A)
        thing = ("f", one, A)
        self.assertEqual(parts_of(thing), [A, one, A, thing])

    def test_one_word_as_function_and_without_parts(self):
        self.assertEqual(parts_of(("a", A)), [A, ("a", A)])

    def test_words_of_one_letter_and_of_thirty(self):
        for word in ("z", "abcdefghijklmnopqrstuvwxyzabcd", "q" * 33):
            thing = (word, (word,))
            self.assertEqual(parts_of(thing), [(word,), thing])

    def test_deep(self):
        for depth in (16, 17, 40, 200):
            with self.subTest(depth=depth):
                found = parts_of(nested(depth, 1))
                self.assertEqual(found, [nested(k + 1, 1) for k in range(depth)])

    def test_sixteen_deep_with_two_parts(self):
        found = parts_of(nested(16, 2))
        self.assertEqual(len(found), 2 ** 16 - 1)
        self.assertEqual(found.count(A), 2 ** 15)
        self.assertEqual(found[:4], [A, A, ("f", A, A), A])
        self.assertEqual(found[-1], nested(16, 2))

    def test_hundred_different_things(self):
        whole, order = hundred()
        found = parts_of(whole)
        self.assertEqual(len(order), 100)
        self.assertEqual(sorted(set(found)), sorted(order))
        self.assertEqual(found[-1], whole)
        # each of the nine groups writes out those below it: 10 + 5 + 1 of its own each
        self.assertEqual(len(found), sum(16 * k for k in range(1, 10)) + 5 + 1)

    def test_a_new_list_each_time(self):
        thing = ("f", A)
        parts_of(thing).append(B)
        self.assertEqual(parts_of(thing), [A, thing])


class AllThings(unittest.TestCase):
    def test_nothing(self):
        self.assertEqual(all_things([]), [])
        self.assertIs(type(all_things([])), list)

    def test_one_thing(self):
        self.assertEqual(all_things([A]), [A])
        self.assertIs(type(all_things([A])), list)

    def test_order_of_parts(self):
        first = ("g", B, A)
        thing = ("f", first, ("h", C))
        self.assertEqual(all_things([thing]), [B, A, first, C, ("h", C), thing])

    def test_each_once_where_it_comes_first(self):
        inner = ("g", A)
        thing = ("f", inner, B, A, inner)
        self.assertEqual(all_things([thing]), [A, inner, B, thing])

    def test_several_things(self):
        inner = ("g", A)
        things = [B, ("f", inner, B), A, inner, ("f", B, C), B]
        self.assertEqual(all_things(things), [B, A, inner, ("f", inner, B), C, ("f", B, C)])

    def test_part_behind_the_whole(self):
        self.assertEqual(all_things([("f", A), A]), [A, ("f", A)])
        self.assertEqual(all_things([A, ("f", A)]), [A, ("f", A)])

    def test_not_sorted(self):
        self.assertEqual(all_things([C, A, B, A]), [C, A, B])

    def test_one_word_with_different_counts_of_parts(self):
        things = [("f",), ("f", A), ("f", A, A), ("f", A)]
        self.assertEqual(all_things(things), [("f",), A, ("f", A), ("f", A, A)])

    def test_same_words_on_top_but_unlike_below(self):
        one = ("f", ("g", A), ("g", B))
        other = ("f", ("g", B), ("g", A))
        self.assertEqual(all_things([one, other, one]), [A, ("g", A), B, ("g", B), one, other])

    def test_order_of_parts_makes_different_things(self):
        one = ("f", A, B)
        other = ("f", B, A)
        self.assertEqual(all_things([one, other]), [A, B, one, other])

    def test_twenty_parts(self):
        parts = [("p" + chr(97 + k),) for k in range(20)]
        thing = ("f",) + tuple(parts)
        self.assertEqual(all_things([thing, thing]), parts + [thing])

    def test_equal_things_that_are_different_objects(self):
        found = all_things([nested_apart(8), nested_apart(9)])
        self.assertEqual(found, [nested(k + 1, 2) for k in range(9)])

    def test_deep(self):
        for depth in (16, 17, 40, 200):
            with self.subTest(depth=depth):
                found = all_things([nested(depth, 1)])
                self.assertEqual(found, [nested(k + 1, 1) for k in range(depth)])

    def test_sixteen_deep_with_twenty_parts_at_each_step(self):
        # Written out it would have more things than can be walked, but only sixteen are different.
        thing = nested(16, 20)
        found = all_things([thing, thing])
        self.assertEqual(len(found), 16)
        self.assertEqual(found[0], A)
        for part, whole in zip(found, found[1:]):
            self.assertEqual((whole[0], len(whole)), ("f", 21))
            self.assertIn(part, whole)

    def test_layers_with_several_things_in_each(self):
        layer = [("a",), ("b",), ("c",), ("d",), ("e",), ("f",)]
        order = list(layer)
        for step in range(15):
            layer = [(word,) + tuple(layer) for word in "abcdef"]
            order += layer
        found = all_things([("top",) + tuple(layer)])
        self.assertEqual(len(found), 97)
        self.assertEqual(found[:-1], order)

    def test_hundred_different_things(self):
        whole, order = hundred()
        self.assertEqual(all_things([whole]), order)

    def test_agrees_with_parts_of(self):
        things = [hundred()[0], nested(10, 2), ("f", A, ("f", B)), ("g",), nested_apart(6)]
        expected = []
        for thing in things:
            for part in parts_of(thing):
                if part not in expected:
                    expected.append(part)
        self.assertEqual(all_things(things), expected)

    def test_list_is_not_changed(self):
        things = [("f", A, A), A, ("f", A, A), B]
        before = copy.deepcopy(things)
        all_things(things).append(C)
        self.assertEqual(things, before)
        empty = []
        all_things(empty).append(C)
        self.assertEqual(empty, [])

    def test_calls_do_not_touch_each_other(self):
        all_things([B])
        self.assertEqual(all_things([A]), [A])


if __name__ == "__main__":
    unittest.main()
