"""Point 13, and the interface of samebook/notes.py."""

import itertools
import re
import unittest

from samebook.errors import NoThing, SameError
from samebook.notes import read, shown

A = ("a",)
B = ("b",)
PAIRS = [
    ("a", A),
    ("z", ("z",)),
    ("abc", ("abc",)),
    ("abcdefghijklmnopqrstuvwxyz", ("abcdefghijklmnopqrstuvwxyz",)),
    ("f(a)", ("f", A)),
    ("f(a b)", ("f", A, B)),
    ("f(a a a)", ("f", A, A, A)),
    ("f(f)", ("f", ("f",))),
    ("f(f(f))", ("f", ("f", ("f",)))),
    ("f(a g(b c))", ("f", A, ("g", B, ("c",)))),
    ("f(g(b c) a)", ("f", ("g", B, ("c",)), A)),
    ("f(g(a) g(b))", ("f", ("g", A), ("g", B))),
    ("f(g(h(a)) b)", ("f", ("g", ("h", A)), B)),
    ("told(same unlike(ask back))", ("told", ("same",), ("unlike", ("ask",), ("back",)))),
]
NAMED = ["f()", "f(a", "f(a )", "f(a  b)", "a b", "(a)", "f(a)(b)", "F", ""]


def texts_up_to(length, signs):
    """Every text of these signs that is at most so long."""
    for size in range(length + 1):
        for text in itertools.product(signs, repeat=size):
            yield "".join(text)


def is_line(text):
    """True where a text is a line: functions of plain parts are put away, one after the other, until one is left."""
    thing = "(?:[a-z]+|#)"
    old = None
    while text != old:
        old = text
        text = re.sub(rf"[a-z]+\({thing}(?: {thing})*\)", "#", text)
    return re.fullmatch(thing, text) is not None


class Lines(unittest.TestCase):
    def test_written(self):
        for line, thing in PAIRS:
            with self.subTest(line=line):
                self.assertEqual(shown(thing), line)
                self.assertIs(type(shown(thing)), str)

    def test_read(self):
        for line, thing in PAIRS:
            with self.subTest(line=line):
                self.assertEqual(read(line), thing)
                self.assertIs(type(read(line)), tuple)
                self.assertTrue(all(type(part) is tuple for part in read(line)[1:]))

    def test_words_longer_than_thirty_letters(self):
        for size in (30, 31, 60, 1000):
            word = "q" * size
            self.assertEqual(read(word), (word,))
            self.assertEqual(read(word + "(a " + word + ")"), (word, A, (word,)))
            self.assertEqual(shown((word, (word,))), word + "(" + word + ")")

    def test_twenty_parts_and_more(self):
        for count in (20, 25, 300):
            thing = ("f",) + (A, ("g", B)) * (count // 2)
            line = "f(" + " ".join(["a", "g(b)"] * (count // 2)) + ")"
            self.assertEqual(shown(thing), line)
            self.assertEqual(read(line), thing)

    def test_deep(self):
        for depth in (16, 17, 40, 200):
            thing = A
            for step in range(depth - 1):
                thing = ("f", thing, B)
            line = "f(" * (depth - 1) + "a" + " b)" * (depth - 1)
            self.assertEqual(shown(thing), line)
            self.assertEqual(read(line), thing)

    def test_parts_shared_within_a_thing(self):
        thing = A
        line = "a"
        for step in range(13):
            thing = ("f", thing, thing)
            line = "f(" + line + " " + line + ")"
        self.assertEqual(shown(thing), line)
        self.assertEqual(read(line), thing)


class Refused(unittest.TestCase):
    def refuse(self, line):
        with self.subTest(line=line[:40]):
            with self.assertRaises(NoThing):
                read(line)

    def test_kind(self):
        with self.assertRaises(SameError):
            read("F")
        with self.assertRaises(ValueError):
            read("f()")

    def test_those_that_the_document_names(self):
        for line in NAMED:
            self.refuse(line)

    def test_those_within_a_function(self):
        for line in NAMED:
            self.refuse("g(" + line + ")" if line != "a b" else "g((" + line + "))")
            self.refuse("g(a " + line + ")" if line != "a b" else "g(a (" + line + "))")
            self.refuse("g(" + line + " ")

    def test_every_sign_that_is_no_letter(self):
        signs = [chr(code) for code in range(32, 127) if not "a" <= chr(code) <= "z"]
        for sign in signs:
            self.refuse(sign)
            self.refuse("a" + sign)
            self.refuse(sign + "a")
            self.refuse("f(a)" + sign)
            self.refuse(sign + "f(a)")
            self.refuse("f(" + sign + ")")
            self.refuse("f(a" + sign + ")" if sign != ")" else "f(a" + sign + "))")
            self.refuse("f(" + sign + "a)")
            self.refuse("f" + sign + "(a)")
            if sign not in "( ":
                self.refuse("a" + sign + "b")
                self.refuse("f(a" + sign + "b)")

    def test_signs_beyond(self):
        for sign in ("\n", "\t", "\r", "\0", "\u00e4", "\u0430", "\uff41", "\u00a0", "{", "`"):
            self.refuse(sign)
            self.refuse("a" + sign)
            self.refuse(sign + "a")
            self.refuse("f(a" + sign + "b)")
            self.refuse("f(a)" + sign)

    def test_blanks(self):
        for line in (" ", "  ", " a", "a ", "  a", "f (a)", "f( a)", "f(a ) ", "f(a) ", " f(a)", "f(a b )", "f( a b)",
                     "f(a   b)", "f(a g (b))", "f(a g( b))", "f(a g(b ))", "f(a  g(b))", "f(g(a)  b)", "f(a) b"):
            self.refuse(line)

    def test_brackets(self):
        for line in ("(", ")", "()", "(())", "f(", "f)", "f(a))", "f((a))", "f((a)", "f(a)()", "f(a()b)", "f(a)b", "a)(",
                     "f(a(b)", "f(a)g(b)", "f(g(a)g(b))", "f(g(a)b)", "((a b))", "f(a (b))", "f(a () b)", "f(()a)", "f(a"
                     " b", "f(a b))", "f(a b)(c)", "f(g(a)(b))", "f(a b)c", "(f a b)"):
            self.refuse(line)

    def test_very_long_ones(self):
        for line in ("f(" * 20000, "(" * 20000, ")" * 20000, "f(" * 20000 + ")" * 20000, "f(a " * 20000, " " * 20000,
                     "f(" * 20000 + "a" + ")" * 19999, "f(" * 20000 + "a" + ")" * 20001, "a " * 20000):
            self.refuse(line)

    def test_every_short_text(self):
        count = 0
        for line in texts_up_to(7, "af( )"):
            if is_line(line):
                count += 1
                self.assertEqual(shown(read(line)), line)
            else:
                with self.assertRaises(NoThing, msg=line):
                    read(line)
        self.assertGreater(count, 400)

    def test_lines_with_one_sign_changed(self):
        for line, thing in PAIRS:
            for place in range(len(line)):
                for sign in ("", "a", "A", "0", "(", ")", " ", "  ", ",", "()", "a "):
                    changed = line[:place] + sign + line[place + 1:]
                    if is_line(changed):
                        self.assertEqual(shown(read(changed)), changed)
                    else:
                        self.refuse(changed)


if __name__ == "__main__":
    unittest.main()
