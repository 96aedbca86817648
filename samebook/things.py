"""Things: each a tuple of a word and, behind it, the things that are its parts."""


def parts_of(thing):
    """The things in a thing: those in each part, in order, and itself last, as often as they stand there."""
    found = []
    for part in thing[1:]:
        found.extend(parts_of(part))
    found.append(thing)
    return found


def all_things(things):
    """The things in all of some things, in the order of parts_of, each once, where it comes first."""
    places = Places()
    for thing in things:
        places.place_of(thing)
    return places.things


class Places:
    """The different things met so far, in the order of all_things, each known by its place from nought.

    `things` holds them; `forms` holds, at the same place, a word and the tuple of the places of its parts.
    """

    def __init__(self):
        self.things = []
        self.forms = []
        self.known = {}

    def place_of(self, thing):
        """The place of a thing; one that is new is taken in, behind the things in its parts."""
        return self.place_within(thing, {})

    def place_within(self, thing, near):
        """The place of a thing within a greater one; `near` holds what was met there, with places, by top_words."""
        # A thing with few different things in it can be very long written out. A dict with things as its keys
        # would walk all of that length; comparing two things passes over each part that both share. Two things
        # that were built apart share none, so nothing is compared beyond the one that is walked.
        met = near.setdefault(top_words(thing), [])
        for twin, place in met:
            if twin == thing:
                return place
        parts = []
        for part in thing[1:]:
            parts.append(self.place_within(part, near))
        new_place = self.place_by_form(thing, (thing[0], tuple(parts)))
        met.append((thing, new_place))
        return new_place

    def place_by_form(self, thing, form):
        """The place of a thing with that word and those places of its parts."""
        if form not in self.known:
            self.known[form] = len(self.things)
            self.things.append(thing)
            self.forms.append(form)
        return self.known[form]


def top_words(thing):
    """The word of a thing and those of its parts: only things that agree in these need comparing."""
    return tuple([thing[0]] + [part[0] for part in thing[1:]])
