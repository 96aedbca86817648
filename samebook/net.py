"""Nets: things in classes of equal ones, with the links that brought each class together."""


def net_of(forms, told):
    """The net of what is told: entries of a kind, a place and a place. Those of another kind are only taken in."""
    net = Net(forms)
    for kind, one, other in told:
        net.take_in(one)
        net.take_in(other)
    for number, entry in enumerate(told):
        if entry[0] == "same":
            net.merge(entry[1], entry[2], ("told", number))
    return net


class Net:
    """Places of things, in classes. All are taken in ahead of the first merge.

    `forms` tells the word of each place and the places of its parts. `leads` tells for each place which one leads
    its class; `members` and `users` tell for each leader who is in the class and who has a part in it. `table`
    tells who has a word and parts in given classes.

    `links` are the merges in their order: two places and a reason, None where they are alike by their parts.
    `link_at` finds a link's number by its two places. The links of a class make a tree: `above` tells for each
    place the linked one that is next on the way to the top.
    """

    def __init__(self, forms):
        self.forms = forms
        self.leads = {}
        self.members = {}
        self.users = {}
        self.table = {}
        self.links = []
        self.link_at = {}
        self.above = {}

    def take_in(self, place):
        """Takes in a place that isn't there yet, behind those of its parts, as a class of its own."""
        if place in self.leads:
            return
        for part in self.forms[place][1]:
            self.take_in(part)
        self.leads[place] = place
        self.members[place] = [place]
        self.users[place] = []
        self.above[place] = None
        for part in self.forms[place][1]:
            self.users[part].append(place)
        self.table[self.key_of(place)] = place

    def key_of(self, place):
        """The word of a place and the leaders of its parts: where these are the same, places are alike."""
        form = self.forms[place]
        return (form[0], tuple([self.leads[part] for part in form[1]]))

    def equal(self, one, other):
        """True where two places are in one class, else False."""
        return self.leads[one] == self.leads[other]

    def merge(self, one, other, reason):
        """Makes two places equal, and all that are equal by it."""
        # One merge can bring on very many, so they wait in a list and not in calls within calls.
        waiting = [(one, other, reason)]
        while waiting:
            link = waiting.pop()
            if not self.equal(link[0], link[1]):
                waiting.extend(self.merge_link(link))

    def merge_link(self, link):
        """Makes one class of the two that a link touches; tells the links that follow from it."""
        one = link[0]
        other = link[1]
        self.link_at[(one, other)] = len(self.links)
        self.link_at[(other, one)] = len(self.links)
        self.links.append(link)
        # The smaller class is given over to the greater one, so that no place is touched often.
        if len(self.members[self.leads[one]]) <= len(self.members[self.leads[other]]):
            self.hang(one, other)
            return self.give_over(self.leads[one], self.leads[other])
        self.hang(other, one)
        return self.give_over(self.leads[other], self.leads[one])

    def hang(self, low, high):
        """Makes a place the top of its tree, and hangs that tree on a place of another one."""
        over = high
        place = low
        while place is not None:
            old_over = self.above[place]
            self.above[place] = over
            over = place
            place = old_over

    def give_over(self, gone, kept):
        """Gives the class of one leader over to another; tells the links between those who become alike."""
        for place in self.members[gone]:
            self.leads[place] = kept
        self.members[kept].extend(self.members[gone])
        self.users[kept].extend(self.users[gone])
        found = []
        for user in self.users[gone]:
            twin = self.table.setdefault(self.key_of(user), user)
            if twin != user:
                found.append((user, twin, None))
        return found

    def way(self, one, other):
        """The steps from a place to an equal one, each a tuple of two linked places."""
        climb = self.way_up(one)
        descent = self.way_up(other)
        while len(climb) > 1 and len(descent) > 1 and climb[-2] == descent[-2]:
            climb.pop()
            descent.pop()
        # Both end now with the one place where the ways meet.
        stops = climb + list(reversed(descent[:-1]))
        return list(zip(stops, stops[1:]))

    def way_up(self, place):
        """The places from one to the top of its tree."""
        found = []
        stop = place
        while stop is not None:
            found.append(stop)
            stop = self.above[stop]
        return found

    def rows(self):
        """A world in which those of one class have one number, and those of different classes different ones."""
        numbers = {}
        for place in self.leads:
            numbers.setdefault(self.leads[place], len(numbers))
        found = {}
        for place in self.leads:
            key = self.key_of(place)
            found[key] = (key[0], [numbers[lead] for lead in key[1]], numbers[self.leads[place]])
        return list(found.values())
