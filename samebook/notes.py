"""Notes: things written as lines, and read from them."""

from samebook.errors import NoThing
from samebook.things import Places


def shown(thing):
    """The line that a thing is written as."""
    places = Places()
    place = places.place_of(thing)
    lines = []
    # The parts of a thing have lower places than itself, so their lines are there when it comes.
    for word, parts in places.forms:
        lines.append(line_of(word, [lines[part] for part in parts]))
    return lines[place]


def line_of(word, parts):
    """The line of a thing, made of its word and the lines of its parts."""
    if not parts:
        return word
    inner = " ".join(parts)
    return f"{word}({inner})"


def read(line):
    """The thing that a line is written as. Refuses with NoThing."""
    # A text can begin functions within functions without end, so they are kept in a list, not in calls within calls.
    begun = []
    start = 0
    while True:
        end = word_end(line, start)
        if end == start:
            raise NoThing("a word is missing")
        word = line[start:end]
        if line[end:end + 1] == "(":
            begun.append([word])
        else:
            thing = (word,)
            while begun and line[end:end + 1] == ")":
                thing = tuple(begun.pop() + [thing])
                end = end + 1
            if not begun and end == len(line):
                return thing
            if not begun or line[end:end + 1] != " ":
                raise NoThing("behind a thing stands what may not stand there")
            begun[-1].append(thing)
        start = end + 1


def word_end(line, start):
    """The place behind the letters that stand from a place on."""
    end = start
    while end < len(line) and "a" <= line[end] <= "z":
        end = end + 1
    return end
