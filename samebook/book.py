"""Books: deeds done one by one, and their answers."""

from samebook.net import net_of
from samebook.reasons import lines_between
from samebook.things import Places

NO_MOMENT = "no moment"


def answers(deeds):
    """The answers to the deeds of a new book, a list."""
    book = Book()
    return [book.answer(deed) for deed in deeds]


def told_after(deeds):
    """What is told behind the deeds, a list."""
    return book_after(deeds).told


def world(deeds):
    """A world in which all that is told behind the deeds holds, with a number for every thing in what is told."""
    book = book_after(deeds)
    return net_of(book.places.forms, book.entries).rows()


def book_after(deeds):
    """The book in which the deeds are done."""
    book = Book()
    for deed in deeds:
        book.answer(deed)
    return book


class Book:
    """What is told: `told` as it was handed in, `entries` the same with the places of things in their stead."""

    def __init__(self):
        self.places = Places()
        self.told = []
        self.entries = []

    def answer(self, deed):
        """Does a deed, and answers it."""
        if deed[0] == "back":
            return self.go_back(deed[1])
        entry = (deed[0], self.places.place_of(deed[1]), self.places.place_of(deed[2]))
        if deed[0] == "ask":
            return self.ask(entry)
        return self.tell(deed, entry)

    def go_back(self, moment):
        """Forgets all but the first ones, and answers how many are forgotten."""
        forgotten = len(self.told) - moment
        if moment < 0 or forgotten < 0:
            return NO_MOMENT
        self.told = self.told[:moment]
        self.entries = self.entries[:moment]
        return forgotten

    def tell(self, deed, entry):
        """Takes up what is told, unless it clashes, and answers how many there are then."""
        entries = self.entries + [entry]
        net = net_of(self.places.forms, entries)
        number = least_clash(net, entries)
        if number is not None:
            return ("clash", number, self.lines_for(net, entries[number]))
        self.told.append(deed)
        self.entries = entries
        return len(entries)

    def ask(self, entry):
        """Answers whether two things are equal, unlike, or whether it is open."""
        net = net_of(self.places.forms, self.entries + [entry])
        if net.equal(entry[1], entry[2]):
            return ("equal", self.lines_for(net, entry))
        apart = net.rows()
        net.merge(entry[1], entry[2], ("asked",))
        number = least_clash(net, self.entries)
        if number is not None:
            return ("unlike", number, self.lines_for(net, self.entries[number]))
        return ("open", apart, net.rows())

    def lines_for(self, net, entry):
        """The lines that show the two of an entry to be equal in a net."""
        return lines_between(self.places.things, net, entry[1], entry[2])


def least_clash(net, entries):
    """The least number of two that are told unlike and are equal in the net, or None where there is none."""
    for number, entry in enumerate(entries):
        if entry[0] == "unlike" and net.equal(entry[1], entry[2]):
            return number
    return None
