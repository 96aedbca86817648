"""Answers held against the document: lines followed step by step, worlds tried out, and what follows found anew.

What is equal is found here by comparing every thing with every other one until nothing changes. It shares no step
with the package, and is meant for books with few things.
"""

from samebook.worlds import holds, value


class Wrong(AssertionError):
    """An answer is not what the document asks for."""


def claim(condition, words):
    if not condition:
        raise Wrong(words)


# What follows (points 5 and 6)

def things_below(things):
    """All things in some things, each once."""
    found = {}

    def visit(thing):
        for part in thing[1:]:
            visit(part)
        found[thing] = True

    for thing in things:
        visit(thing)
    return list(found)


def classes(told, more):
    """A number for each thing in what is told and in some more; equal things have one number."""
    things = things_below([thing for entry in told for thing in entry[1:]] + list(more))
    number = {thing: place for place, thing in enumerate(things)}

    def unite(one, other):
        old, new = number[one], number[other]
        for thing in things:
            if number[thing] == old:
                number[thing] = new
        return old != new

    for kind, one, other in told:
        if kind == "same":
            unite(one, other)
    changed = True
    while changed:
        changed = False
        for one in things:
            for other in things:
                if one[0] == other[0] and len(one) == len(other):
                    if all(number[part] == number[twin] for part, twin in zip(one[1:], other[1:])):
                        changed = unite(one, other) or changed
    return number


def clashes(told):
    """The numbers of all that is told unlike and is equal."""
    number = classes(told, [])
    return [place for place, (kind, one, other) in enumerate(told) if kind == "unlike" and number[one] == number[other]]


def verdict(told, one, other):
    """`equal`, `unlike` or `open`."""
    number = classes(told, [one, other])
    if number[one] == number[other]:
        return "equal"
    return "unlike" if clashes(told + [("same", one, other)]) else "open"


# Lines (point 7)

def follow(lines, told, asked, goal):
    """Follows lines from the first to the last. `asked` are the two asked about, or None where that may not stand."""
    claim(type(lines) is list and lines, "no list of lines")
    for place, line in enumerate(lines):
        claim(type(line) is tuple and len(line) == 3, "no line")
        claim(type(line[2]) is tuple and line[2], "no reason")
        follow_line(line, lines[:place], told, asked)
    claim(lines[-1][:2] == tuple(goal), "the last line tells something else")


def follow_line(line, ahead, told, asked):
    one, other, reason = line
    word = reason[0]
    claim(len(reason) == (1 if word == "asked" else 2), "a reason of another length")
    if word == "told":
        number = reason[1]
        claim(type(number) is int and 0 <= number < len(told), "nothing told with that number")
        claim(told[number] == ("same", one, other), "something else was told")
    elif word == "turn":
        claim(rest_on(ahead, reason[1])[:2] == (other, one), "the turned line tells something else")
    elif word == "chain":
        claim(type(reason[1]) is list, "no list of numbers")
        reached = one
        for number in reason[1]:
            claim(rest_on(ahead, number)[0] == reached, "the chain is broken")
            reached = rest_on(ahead, number)[1]
        claim(reached == other, "the chain ends elsewhere")
    elif word == "like":
        claim(type(reason[1]) is list, "no list of numbers")
        claim(one[0] == other[0] and len(one) == len(other) == len(reason[1]) + 1, "two functions, or a part forgotten")
        for number, part, twin in zip(reason[1], one[1:], other[1:]):
            claim(rest_on(ahead, number)[:2] == (part, twin), "that line tells other parts")
    else:
        claim(word == "asked", "no such reason")
        claim(asked is not None and (one, other) == tuple(asked), "that was not asked")


def rest_on(ahead, number):
    claim(type(number) is int and 0 <= number < len(ahead), "no line ahead with that number")
    return ahead[number]


# Worlds (points 8 to 10)

def try_world(rows, told):
    claim(type(rows) is list, "no list of rows")
    met = []
    for row in rows:
        claim(type(row) is tuple and len(row) == 3, "no row")
        word, numbers, number = row
        claim(type(word) is str and type(numbers) is list, "a word or numbers of another kind")
        claim(all(type(each) is int and each >= 0 for each in numbers + [number]), "no whole number")
        claim((word, numbers) not in met, "a word stands with the same numbers twice")
        met.append((word, numbers))
    claim(holds(rows, told) is True, "what is told doesn't hold")
    for entry in told:
        for thing in entry[1:]:
            value(rows, thing)


# Deeds (point 11)

def check_book(deeds, found):
    """Holds the answers to deeds against the document, each one whole, and gives what is told behind them."""
    claim(type(found) is list and len(found) == len(deeds), "not an answer for each deed")
    told = []
    for deed, answer in zip(deeds, found):
        if deed[0] == "back":
            told = check_back(told, deed[1], answer)
        elif deed[0] == "ask":
            check_ask(told, deed[1], deed[2], answer)
        else:
            told = check_tell(told, deed, answer)
    return told


def check_back(told, moment, answer):
    if moment < 0 or moment > len(told):
        claim(answer == "no moment", "a moment that isn't there")
        return told
    claim(type(answer) is int and answer == len(told) - moment, "another number of forgotten ones")
    return told[:moment]


def check_tell(told, deed, answer):
    numbers = clashes(told + [deed])
    if not numbers:
        claim(type(answer) is int and answer == len(told) + 1, "another number of told ones")
        return told + [deed]
    claim(type(answer) is tuple and len(answer) == 3 and answer[0] == "clash", "no clash")
    claim(type(answer[1]) is int and answer[1] == min(numbers), "not the least number")
    follow(answer[2], told + [deed], None, (told + [deed])[answer[1]][1:])
    return told


def check_ask(told, one, other, answer):
    claim(type(answer) is tuple and answer[0] == verdict(told, one, other), "another verdict")
    claim(len(answer) == (2 if answer[0] == "equal" else 3), "an answer of another length")
    if answer[0] == "equal":
        follow(answer[1], told, None, (one, other))
    elif answer[0] == "unlike":
        claim(type(answer[1]) is int and 0 <= answer[1] < len(told), "nothing told with that number")
        claim(told[answer[1]][0] == "unlike", "that is not told unlike")
        follow(answer[2], told, (one, other), told[answer[1]][1:])
    else:
        try_world(answer[1], told)
        try_world(answer[2], told)
        claim(value(answer[1], one) != value(answer[1], other), "the world apart has them alike")
        claim(value(answer[2], one) == value(answer[2], other), "the world alike has them apart")
