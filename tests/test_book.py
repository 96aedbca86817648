"""Points 4 to 7 and 10 to 12, and the interface of samebook/book.py: chosen books, each answer held whole."""

import unittest

from follow import check_book, try_world, verdict
from samebook.book import answers, told_after, world
from samebook.worlds import holds, value

A = ("a",)
B = ("b",)
C = ("c",)
D = ("d",)
E = ("e",)


def f(*parts):
    return ("f",) + parts


def g(*parts):
    return ("g",) + parts


def tower(height, top="f", bottom=A):
    """So many functions of one part, one of the other."""
    thing = bottom
    for step in range(height):
        thing = (top, thing)
    return thing


def kinds(found):
    """Answers with their lines and worlds left out: these are free."""
    shortened = []
    for answer in found:
        if isinstance(answer, tuple):
            shortened.append(answer[:2] if answer[0] == "clash" else answer[0])
        else:
            shortened.append(answer)
    return shortened


class BookTest(unittest.TestCase):
    def check(self, deeds, expected):
        """Every answer is held against the document, and its kind against what is expected here."""
        found = answers(deeds)
        told = check_book(deeds, found)
        self.assertEqual(kinds(found), expected)
        self.assertEqual(told_after(deeds), told)
        try_world(world(deeds), told)
        return found

    def check_ask(self, told, one, other, expected):
        """Asked both ways round."""
        counts = list(range(1, len(told) + 1))
        self.check(told + [("ask", one, other), ("ask", other, one)], counts + [expected, expected])


class Equal(BookTest):
    def test_itself_with_nothing_told(self):
        self.check([("ask", A, A), ("ask", f(A, g(B)), f(A, g(B)))], ["equal", "equal"])

    def test_what_is_told(self):
        self.check_ask([("same", A, B)], A, B, "equal")
        self.check_ask([("same", f(A), g(B, C))], f(A), g(B, C), "equal")

    def test_from_first_to_third(self):
        told = [("same", A, B), ("same", B, C)]
        self.check_ask(told, A, C, "equal")

    def test_chains_with_sides_turned(self):
        told = [("same", B, A), ("same", B, C), ("same", D, C), ("same", D, E)]
        for one in (A, B, C, D, E):
            for other in (A, B, C, D, E):
                self.check_ask(told, one, other, "equal")

    def test_functions_of_equal_things(self):
        told = [("same", A, B), ("same", C, D)]
        self.check_ask(told, f(A), f(B), "equal")
        self.check_ask(told, f(A, D), f(B, C), "equal")
        self.check_ask(told, f(A, E, C), f(A, E, D), "equal")
        self.check_ask(told, g(f(A), A), g(f(B), B), "equal")

    def test_each_part_must_be_equal(self):
        told = [("same", A, B)]
        self.check_ask(told, f(A, C), f(B, D), "open")
        self.check_ask(told, f(C, A), f(D, B), "open")
        self.check_ask(told, f(A, C), f(C, B), "open")

    def test_functions_told_the_same_say_nothing_of_parts(self):
        self.check_ask([("same", f(A), f(B))], A, B, "open")

    def test_functions_that_link_functions(self):
        told = [("same", A, f(B)), ("same", B, C), ("same", f(C), D)]
        self.check_ask(told, A, D, "equal")
        self.check_ask(told, g(A, D), g(D, A), "equal")

    def test_three_and_five_make_one(self):
        told = [("same", tower(5), A), ("same", tower(3), A)]
        self.check_ask(told, tower(1), A, "equal")
        self.check_ask(told, tower(16), tower(7), "equal")
        self.check_ask(told, tower(2, "g"), A, "open")

    def test_six_and_four_make_two(self):
        told = [("same", tower(6), A), ("same", A, tower(4))]
        self.check_ask(told, tower(2), A, "equal")
        self.check_ask(told, tower(9), tower(13), "equal")
        self.check_ask(told, tower(1), A, "open")

    def test_a_function_that_gives_its_first_part(self):
        told = [("same", f(A, B), A), ("same", f(f(A, B), B), C)]
        self.check_ask(told, A, C, "equal")

    def test_a_thing_told_the_same_as_a_function_of_itself(self):
        told = [("same", A, f(A))]
        self.check_ask(told, A, tower(15), "equal")
        self.check_ask(told, tower(4), tower(9), "equal")
        self.check_ask([("same", A, f(A, g(A)))], A, f(f(A, g(A)), g(A)), "equal")
        self.check_ask([("same", A, f(A, g(A)))], A, f(f(A, g(A)), g(f(A, g(A)))), "equal")
        self.check_ask([("same", A, f(A, g(A)))], A, g(A), "open")

    def test_unlike_tells_nothing_of_what_is_equal(self):
        told = [("unlike", A, B), ("unlike", B, C), ("unlike", A, C)]
        self.check_ask(told, f(A), f(B), "open")
        self.check_ask(told, A, D, "open")

    def test_told_the_same_as_itself(self):
        self.check([("same", A, A), ("same", f(A), f(A)), ("ask", A, A), ("ask", A, f(A))], [1, 2, "equal", "open"])

    def test_told_twice(self):
        told = [("same", A, B), ("same", A, B), ("same", B, A)]
        self.check_ask(told, A, B, "equal")

    def test_parts_shared_within_a_thing(self):
        shared = g(A, B)
        other = g(B, A)
        told = [("same", A, B)]
        self.check_ask(told, f(shared, shared, f(shared)), f(other, shared, f(other)), "equal")
        self.check_ask(told, f(A, A, B), f(B, A, A), "equal")

    def test_things_below_what_was_told(self):
        told = [("same", f(g(A)), C), ("same", A, B)]
        self.check_ask(told, f(g(B)), C, "equal")
        self.check_ask(told, g(A), g(B), "equal")


class Unlike(BookTest):
    def test_what_is_told(self):
        self.check_ask([("unlike", A, B)], A, B, "unlike")
        self.check_ask([("unlike", f(A), g(B, C))], f(A), g(B, C), "unlike")

    def test_equal_to_what_is_told_unlike(self):
        told = [("same", A, C), ("unlike", A, B), ("same", B, D)]
        for one in (A, C):
            for other in (B, D):
                self.check_ask(told, one, other, "unlike")

    def test_because_functions_are_unlike(self):
        self.check_ask([("unlike", f(A), f(B))], A, B, "unlike")
        self.check_ask([("unlike", f(A, C), f(B, C))], A, B, "unlike")
        self.check_ask([("unlike", g(f(A)), g(f(B)))], A, B, "unlike")
        self.check_ask([("unlike", g(f(A)), g(f(B)))], f(A), f(B), "unlike")

    def test_functions_of_unlike_things_are_open(self):
        self.check_ask([("unlike", A, B)], f(A), f(B), "open")
        self.check_ask([("unlike", f(A, C), f(B, D))], A, B, "open")

    def test_unlike_is_not_handed_on(self):
        self.check_ask([("unlike", A, B), ("unlike", B, C)], A, C, "open")

    def test_the_asked_two_used_many_times(self):
        told = [("unlike", tower(9), tower(9, bottom=B)), ("same", C, B)]
        self.check_ask(told, A, B, "unlike")
        self.check_ask(told, C, A, "unlike")
        self.check_ask(told, tower(4), tower(4, bottom=C), "unlike")
        self.check_ask([("unlike", A, tower(6))], A, f(A), "unlike")
        self.check_ask([("unlike", A, tower(6))], A, tower(2), "unlike")
        self.check_ask([("unlike", A, tower(6))], A, tower(4), "open")

    def test_things_never_told_of(self):
        told = [("unlike", f(g(A)), f(g(B)))]
        self.check_ask(told, g(A), g(B), "unlike")
        self.check_ask([("same", A, B), ("unlike", f(A), C)], f(B), C, "unlike")

    def test_several_told_unlike(self):
        told = [("unlike", C, D), ("unlike", f(A), f(B)), ("unlike", B, A)]
        self.check_ask(told, A, B, "unlike")


class Open(BookTest):
    def test_nothing_told(self):
        self.check([("ask", A, B), ("ask", A, f(A)), ("ask", f(), f(f())), ("ask", f(A), g(A))], ["open"] * 4)

    def test_things_never_told_of(self):
        told = [("same", A, B), ("unlike", B, C)]
        self.check_ask(told, D, E, "open")
        self.check_ask(told, D, A, "open")
        self.check_ask(told, f(D, A), f(E, B), "open")

    def test_same_word_and_another_number_of_parts(self):
        told = [("same", A, B), ("unlike", f(A), f(B, B))]
        self.check_ask(told, f(A), f(A, A), "unlike")
        self.check_ask([("same", A, B)], f(A), f(B, B), "open")
        self.check_ask([("same", A, B)], f(), f(B), "open")
        self.check_ask([("same", f(), A), ("same", f(A), B)], f(f()), B, "equal")
        self.check_ask([("same", f(A), f(A, A))], f(f(A)), f(f(A), f(A)), "open")

    def test_the_order_of_parts(self):
        self.check_ask([("unlike", A, B)], f(A, B), f(B, A), "open")
        self.check_ask([("unlike", f(A, B), f(B, A))], A, B, "unlike")

    def test_words_alike_in_their_letters(self):
        self.check_ask([("same", ("a",), ("aa",))], ("a",), ("aaa",), "open")
        word = "abcdefghijklmnopqrstuvwxyzabcd"
        self.check_ask([("same", (word,), A)], (word[:-1] + "e",), A, "open")
        self.check_ask([("same", (word,), A)], f((word,)), f(A), "equal")
        self.check_ask([("same", ("q" * 35,), A)], ("q" * 35,), A, "equal")

    def test_worlds_have_rows_for_all_that_is_told(self):
        deeds = [("same", A, f(B, C)), ("unlike", g(D), A), ("ask", E, f(E))]
        answer = self.check(deeds, [1, 2, "open"])[2]
        for rows in answer[1:]:
            for thing in (A, B, C, D, E, f(B, C), g(D), f(E)):
                value(rows, thing)


class Clash(BookTest):
    def test_same_behind_unlike(self):
        self.check([("unlike", A, B), ("same", A, B), ("same", B, A), ("ask", A, B)], [1, ("clash", 0), ("clash", 0), "unlike"])

    def test_unlike_behind_same(self):
        self.check([("same", A, B), ("unlike", A, B), ("unlike", B, A), ("ask", A, B)], [1, ("clash", 1), ("clash", 1), "equal"])

    def test_a_thing_told_unlike_itself(self):
        self.check([("unlike", A, A), ("ask", A, A), ("same", A, B)], [("clash", 0), "equal", 1])
        self.check([("same", A, B), ("unlike", f(C), f(C))], [1, ("clash", 1)])

    def test_least_number_of_several(self):
        told = [("unlike", C, D), ("unlike", f(A), f(B)), ("unlike", B, A), ("unlike", A, B)]
        self.check(told + [("same", A, B)], [1, 2, 3, 4, ("clash", 1)])
        self.check(told[::-1] + [("same", B, A)], [1, 2, 3, 4, ("clash", 0)])

    def test_the_same_two_told_unlike_twice(self):
        self.check([("unlike", A, B), ("unlike", A, B), ("same", A, B)], [1, 2, ("clash", 0)])
        self.check([("same", C, A), ("unlike", B, A), ("unlike", A, B), ("same", C, B)], [1, 2, 3, ("clash", 1)])

    def test_the_refused_one_is_the_only_one_unlike(self):
        deeds = [("unlike", C, D), ("same", A, B), ("unlike", f(A), f(B)), ("ask", f(A), f(B))]
        self.check(deeds, [1, 2, ("clash", 2), "equal"])

    def test_only_by_functions_of_equal_things(self):
        self.check([("unlike", f(A), f(B)), ("same", A, B)], [1, ("clash", 0)])
        self.check([("unlike", g(f(A), C), g(f(B), D)), ("same", C, D), ("same", B, A)], [1, 2, ("clash", 0)])
        self.check([("same", A, B), ("unlike", g(f(A)), g(f(B)))], [1, ("clash", 1)])
        self.check([("unlike", A, tower(12)), ("same", f(A), A)], [1, ("clash", 0)])
        deeds = [("same", tower(5), A), ("unlike", tower(1), A), ("same", tower(3), A)]
        self.check(deeds, [1, 2, ("clash", 1)])

    def test_the_refused_one_turned_and_used_twice(self):
        deeds = [("unlike", f(A, B), f(B, A)), ("same", C, A), ("same", B, C)]
        self.check(deeds, [1, 2, ("clash", 0)])

    def test_nothing_is_told_by_it(self):
        deeds = [("unlike", A, B), ("same", A, B), ("same", B, C), ("ask", A, C), ("ask", A, B), ("same", A, D)]
        self.check(deeds, [1, ("clash", 0), 2, "unlike", "unlike", 3])
        self.assertEqual(told_after(deeds), [deeds[0], deeds[2], deeds[5]])

    def test_numbers_behind_a_clash_are_those_of_what_is_told(self):
        deeds = [("unlike", A, B), ("same", A, B), ("same", C, D), ("ask", C, D), ("unlike", D, C)]
        found = self.check(deeds, [1, ("clash", 0), 2, "equal", ("clash", 2)])
        self.assertIn((C, D, ("told", 1)), found[3][1])

    def test_a_line_rests_on_what_is_refused(self):
        found = self.check([("same", C, D), ("unlike", A, B), ("same", A, B)], [1, 2, ("clash", 1)])
        self.assertIn((A, B, ("told", 2)), found[2][2])


class Back(BookTest):
    def test_to_nought(self):
        deeds = [("same", A, B), ("unlike", A, C), ("back", 0), ("ask", A, B), ("ask", A, C), ("same", A, C)]
        self.check(deeds, [1, 2, 2, "open", "open", 1])

    def test_to_the_present_moment(self):
        deeds = [("back", 0), ("same", A, B), ("unlike", A, C), ("back", 2), ("ask", A, B), ("ask", A, C), ("same", D, E)]
        self.check(deeds, [0, 1, 2, 0, "equal", "unlike", 3])

    def test_only_the_first_ones_stay(self):
        deeds = [("same", A, B), ("same", C, D), ("unlike", A, C), ("back", 1)]
        deeds += [("ask", A, B), ("ask", C, D), ("ask", A, C), ("same", A, C)]
        self.check(deeds, [1, 2, 3, 2, "equal", "open", "open", 2])
        self.assertEqual(told_after(deeds), [deeds[0], deeds[7]])

    def test_no_moment(self):
        big = 10 ** 59
        for moment in (-1, -2, 3, 4, 20, big, -big, 10 ** 60 - 1, 1 - 10 ** 60, 10 ** 63, -10 ** 63):
            with self.subTest(moment=moment):
                deeds = [("same", A, B), ("unlike", A, C), ("back", moment), ("ask", A, B), ("ask", B, C), ("same", A, D)]
                self.check(deeds, [1, 2, "no moment", "equal", "unlike", 3])

    def test_no_moment_in_an_empty_book(self):
        self.check([("back", 1), ("back", -1), ("back", 0)], ["no moment", "no moment", 0])

    def test_a_moment_that_is_forgotten_is_there_no_more(self):
        self.check([("same", A, B), ("same", B, C), ("back", 1), ("back", 2), ("back", 1)], [1, 2, 1, "no moment", 0])

    def test_clashes_do_not_count(self):
        deeds = [("unlike", A, B), ("same", A, B), ("back", 2), ("back", 1), ("back", 0), ("same", A, B)]
        self.check(deeds, [1, ("clash", 0), "no moment", 0, 1, 1])

    def test_what_was_refused_can_be_told_behind_it(self):
        deeds = [("same", C, D), ("unlike", A, B), ("same", A, B), ("back", 1), ("same", A, B), ("unlike", A, B)]
        self.check(deeds, [1, 2, ("clash", 1), 1, 2, ("clash", 2)])

    def test_as_a_new_book_in_which_just_the_rest_is_told(self):
        told = [("same", A, f(B)), ("unlike", g(A), C), ("same", B, D), ("same", C, E), ("unlike", D, E)]
        things = [A, B, C, D, E, f(B), f(D), g(A), g(f(D))]
        asks = [("ask", one, other) for one in things for other in things]
        for moment in range(len(told) + 1):
            with self.subTest(moment=moment):
                found = answers(told + [("back", moment)] + asks)
                check_book(told + [("back", moment)] + asks, found)
                self.assertEqual(kinds(found[len(told) + 1:]), kinds(answers(told[:moment] + asks)[moment:]))
                again = told + [("back", moment)] + told[moment:]
                self.assertEqual(answers(again)[-1], len(told) if moment < len(told) else 0)
                self.assertEqual(told_after(again), told)


class ToldAfterAndWorld(BookTest):
    def test_nothing(self):
        self.assertEqual(answers([]), [])
        self.assertEqual(told_after([]), [])
        self.assertEqual(world([]), [])
        self.assertIs(type(told_after([])), list)
        self.assertIs(type(world([])), list)

    def test_asking_tells_nothing(self):
        deeds = [("ask", A, B), ("same", A, C), ("ask", A, C), ("ask", B, C)]
        self.assertEqual(told_after(deeds), [("same", A, C)])

    def test_order_and_sides_as_told(self):
        deeds = [("unlike", f(B), A), ("same", C, A), ("same", B, B), ("unlike", A, f(B)), ("unlike", f(B), A)]
        self.assertEqual(told_after(deeds), deeds)

    def test_clashes_and_goings_back(self):
        deeds = [
            ("same", A, B), ("unlike", A, B), ("unlike", f(A), C), ("same", C, f(B)), ("same", D, E), ("back", 2),
            ("back", 7), ("ask", D, E), ("unlike", D, E), ("back", -1), ("same", E, D), ("same", D, f(D)),
        ]
        self.check(deeds, [
            1, ("clash", 1), 2, ("clash", 1), 3, 1, "no moment", "open", 3, "no moment", ("clash", 2), 4,
        ])
        self.assertEqual(told_after(deeds), [deeds[0], deeds[2], deeds[8], deeds[11]])
        for length in range(len(deeds) + 1):
            self.assertTrue(holds(world(deeds[:length]), told_after(deeds[:length])))

    def test_world_has_a_number_for_every_thing_told_of(self):
        deeds = [("same", f(A, g(B)), C), ("unlike", f(g(g(D))), f(E, E, E))]
        rows = world(deeds)
        for thing in (A, B, C, D, E, g(B), f(A, g(B)), g(D), g(g(D)), f(g(g(D))), f(E, E, E)):
            value(rows, thing)
        self.assertTrue(holds(rows, deeds))

    def test_world_where_functions_become_one(self):
        deeds = [("same", A, B), ("same", f(A), C), ("unlike", f(B), A), ("same", f(C), f(f(B)))]
        try_world(world(deeds), deeds)

    def test_what_is_forgotten_need_not_hold(self):
        deeds = [("same", A, B), ("back", 0), ("unlike", A, B)]
        self.assertTrue(holds(world(deeds), [("unlike", A, B)]))

    def test_lists_are_new_each_time(self):
        deeds = [("same", A, B), ("ask", A, C), ("ask", f(A), f(B))]
        first = answers(deeds)
        first[1][1].append("more")
        first[1][2].clear()
        first[2][1].clear()
        first.append("more")
        told_after(deeds).append("more")
        world(deeds).append("more")
        check_book(deeds, answers(deeds))
        self.assertEqual(told_after(deeds), [("same", A, B)])
        try_world(world(deeds), [("same", A, B)])

    def test_nothing_in_an_answer_is_shared_with_another(self):
        deeds = [("same", A, B), ("ask", A, C), ("ask", A, C), ("ask", f(A), f(B)), ("ask", f(A), f(B))]
        found = answers(deeds)
        found[1][1].clear()
        found[1][2].clear()
        found[3][1].clear()
        check_book(deeds[:1] + deeds[2:3] + deeds[4:], found[:1] + found[2:3] + found[4:])

    def test_deeds_are_as_they_were(self):
        deeds = [("same", A, B), ("unlike", f(A), f(B)), ("back", 9), ("unlike", A, C), ("ask", A, C), ("ask", D, E), ("back", 0)]
        before = repr(deeds)
        answers(deeds)
        told_after(deeds).append("more")
        world(deeds)
        self.assertEqual(repr(deeds), before)

    def test_books_do_not_touch_each_other(self):
        answers([("same", A, B)])
        told_after([("same", A, B)])
        self.check([("ask", A, B), ("unlike", A, B)], ["open", 1])


class NoDifference(BookTest):
    TOLD = [("same", A, f(B)), ("unlike", g(A, B), C), ("same", B, D), ("unlike", f(C), f(f(D))), ("same", E, f(E))]
    THINGS = [A, B, C, D, E, f(A), f(D), f(f(E)), g(f(D), D), g(A, A)]

    def verdicts(self, told, things):
        asks = [("ask", one, other) for one in things for other in things]
        found = answers(told + asks)
        self.assertEqual(found[:len(told)], list(range(1, len(told) + 1)))
        check_book(told + asks, found)
        return kinds(found[len(told):])

    def setUp(self):
        self.expected = [verdict(self.TOLD, one, other) for one in self.THINGS for other in self.THINGS]
        self.assertEqual(sorted(set(self.expected)), ["equal", "open", "unlike"])

    def test_as_told(self):
        self.assertEqual(self.verdicts(self.TOLD, self.THINGS), self.expected)

    def test_in_another_order(self):
        for turn in range(1, len(self.TOLD)):
            told = self.TOLD[turn:] + self.TOLD[:turn]
            with self.subTest(turn=turn):
                self.assertEqual(self.verdicts(told, self.THINGS), self.expected)
                self.assertEqual(self.verdicts(told[::-1], self.THINGS), self.expected)

    def test_with_sides_turned(self):
        for place in range(len(self.TOLD)):
            told = list(self.TOLD)
            told[place] = (told[place][0], told[place][2], told[place][1])
            with self.subTest(place=place):
                self.assertEqual(self.verdicts(told, self.THINGS), self.expected)
        self.assertEqual(self.verdicts([(kind, other, one) for kind, one, other in self.TOLD], self.THINGS), self.expected)

    def test_with_other_words(self):
        for words in ("edcbagf", "gfabcde", "zyxwvut"):
            other_words = dict(zip("abcdefg", words))

            def renamed(thing):
                return (other_words[thing[0]] * 2,) + tuple(renamed(part) for part in thing[1:])

            told = [(kind, renamed(one), renamed(other)) for kind, one, other in self.TOLD]
            with self.subTest(words=words):
                self.assertEqual(self.verdicts(told, [renamed(thing) for thing in self.THINGS]), self.expected)

    def test_words_like_those_of_reasons_and_deeds(self):
        for word in ("told", "same", "unlike", "asked", "like", "back"):
            told = [("same", (word,), A), ("unlike", (word, A), (word, A, A))]
            self.check_ask(told, (word, (word,)), (word, A), "equal")
            self.check_ask(told, (word, (word,)), (word, A, A), "unlike")
            self.check_ask(told, (word, (word,)), (word,), "open")


if __name__ == "__main__":
    unittest.main()
