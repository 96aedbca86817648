"""Things: each a tuple of a word and, behind it, the things that are its parts."""

# These tell what is walked anew and what is compared (see Walk): a matter of time alone, never of an answer.
FEW_PARTS = 4
WALKS_ANEW = 1024
STEPS_ANEW = 40000


def parts_of(thing):
    """The things in a thing: those in each part, in order, and itself last, as often as they stand there."""
    found = []
    for part in thing[1:]:
        found.extend(parts_of(part))
    found.append(thing)
    return found


def all_things(things):
    """The things in all of some things, in the order of parts_of, each once, where it comes first."""
    places = Places()
    for thing in things:
        places.place_of(thing)
    return places.things


class Places:
    """The different things met so far, in the order of all_things, each known by its place from nought.

    `things` holds them; `forms` holds, at the same place, a word and the tuple of the places of its parts.
    """

    def __init__(self):
        self.things = []
        self.forms = []
        self.known = {}

    def place_of(self, thing):
        """The place of a thing; one that is new is taken in, behind the things in its parts."""
        return Walk(self).place_within(thing, {}, WALKS_ANEW)

    def place_by_form(self, thing, form):
        """The place of a thing with that word and those places of its parts."""
        if form not in self.known:
            self.known[form] = len(self.things)
            self.things.append(thing)
            self.forms.append(form)
        return self.known[form]


class Walk:
    """One handed-in thing, on its way into `places`.

    It can have few different things in it and yet be longer, written out, than can be walked; a dict with things as
    its keys would walk all of that too. Comparing two things passes at once over the parts that both share, but
    takes the full length of equal parts that were built apart, and nothing tells beforehand which it will be. So the
    parts of a thing are walked anew, each compared with nothing outside of it, where they are few or near the top.
    Each step at which that is done multiplies the walks, so these have an end, and so have the `steps` in them.
    Beyond it a thing is compared with those met nearby, in the hope that equal ones there are one object.
    """

    def __init__(self, places):
        self.places = places
        self.steps = 0

    def place_within(self, thing, near, spare):
        """The place of a thing.

        `near` holds those to compare it with, and their places, by top_words; `spare` tells into how many walks the
        one that comes by it may be split.
        """
        self.steps = self.steps + 1
        met = near.setdefault(top_words(thing), [])
        place = place_among(met, thing)
        if place is not None:
            return place
        inner = len([part for part in thing[1:] if len(part) > 1])
        share = share_of(spare, inner) if self.steps < STEPS_ANEW else 0
        scope = near
        parts = []
        for part in thing[1:]:
            # Few parts are all walked anew. Of many, those that come when the steps are used up are compared with the
            # one ahead of them: walked anew, they could no longer do the same with what was built apart in them.
            if share > 0 and (inner <= FEW_PARTS or self.steps < STEPS_ANEW):
                scope = {}
            elif parts and part == thing[len(parts)]:
                parts.append(parts[-1])
                continue
            parts.append(self.place_within(part, scope, share or spare))
        place = self.places.place_by_form(thing, (thing[0], tuple(parts)))
        met.append((thing, place))
        return place


def top_words(thing):
    """The word of a thing and those of its parts: only things that agree in these need comparing."""
    return tuple([thing[0]] + [part[0] for part in thing[1:]])


def place_among(met, thing):
    """The place of a thing that is equal to one of those met, or None where there is none."""
    # The latest first, since a thing often stands beside its equals.
    for twin, place in reversed(met):
        if twin == thing:
            return place
    return None


def share_of(spare, inner):
    """How many of the spare walks fall to each of so many parts, or nought where they are not walked anew."""
    # The more parts there are, the more must be left over: things that were built apart can also stand further in.
    if inner < 2 or spare // inner < inner - 1:
        return 0
    return spare // inner
