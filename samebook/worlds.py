"""Worlds: lists of rows that give numbers to things."""

from samebook.errors import NoRow
from samebook.things import Places


def value(rows, thing):
    """The number of a thing. Refuses with NoRow."""
    return numbers_of(rows, [thing])[0]


def holds(rows, told):
    """True where all that is told holds in the world, else False. Refuses with NoRow, ahead of all else."""
    ones = numbers_of(rows, [one for kind, one, other in told])
    others = numbers_of(rows, [other for kind, one, other in told])
    for entry, first, second in zip(told, ones, others):
        if (first == second) != (entry[0] == "same"):
            return False
    return True


def numbers_of(rows, things):
    """The numbers of some things, in their order. Refuses with NoRow."""
    places = Places()
    asked = [places.place_of(thing) for thing in things]
    table = row_table(rows)
    numbers = []
    # The parts of a thing have lower places than itself, so their numbers are there when it comes.
    for word, parts in places.forms:
        numbers.append(number_in(table, word, [numbers[part] for part in parts]))
    return [numbers[place] for place in asked]


def row_table(rows):
    """The rows as a dict from a word and its numbers to the value."""
    table = {}
    for word, numbers, number in rows:
        table[(word, tuple(numbers))] = number
    return table


def number_in(table, word, numbers):
    """The number of a thing with that word, whose parts have these numbers. Refuses with NoRow."""
    key = (word, tuple(numbers))
    if key not in table:
        raise NoRow(f"no row for {word} with the numbers of its parts")
    return table[key]
