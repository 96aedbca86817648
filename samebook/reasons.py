"""Reasons: lines that follow one from the other and show two things to be equal."""


def lines_between(things, net, one, other):
    """The lines that show two equal places of a net to be so; the last one tells these two."""
    showing = Showing(things, net)
    for number in links_needed(net, one, other):
        showing.write_link(net.links[number])
    showing.line_for(one, other)
    return showing.lines


def links_needed(net, one, other):
    """The numbers of all links that it rests on that two places are equal, in their order."""
    needed = {}
    for step in net.way(one, other):
        needed[net.link_at[step]] = True
    # A link rests only on links ahead of it, so behind each number nothing is left to be found.
    for number in range(len(net.links) - 1, -1, -1):
        if number in needed:
            for part, twin in pairs_below(net, net.links[number]):
                for step in net.way(part, twin):
                    needed[net.link_at[step]] = True
    return sorted(needed)


def pairs_below(net, link):
    """The places that must be equal, two by two, for a link to be there: the parts, where it is made by them."""
    if link[2] is not None:
        return []
    return list(zip(net.forms[link[0]][1], net.forms[link[1]][1]))


class Showing:
    """Lines as they are written; `numbers` tells for two places which line tells them, in this order."""

    def __init__(self, things, net):
        self.things = things
        self.net = net
        self.lines = []
        self.numbers = {}

    def write(self, one, other, reason):
        """Writes a line behind all others."""
        self.numbers[(one, other)] = len(self.lines)
        self.lines.append((self.things[one], self.things[other], reason))

    def write_link(self, link):
        """Writes the line of a link; the lines of all links that it rests on are there."""
        reason = link[2]
        if reason is None:
            reason = ("like", [self.line_for(part, twin) for part, twin in pairs_below(self.net, link)])
        self.write(link[0], link[1], reason)

    def line_for(self, one, other):
        """The number of the line that tells two places, written if it isn't there yet."""
        if (one, other) not in self.numbers:
            if (other, one) in self.numbers:
                reason = ("turn", self.numbers[(other, one)])
            else:
                reason = ("chain", [self.line_for(start, end) for start, end in self.net.way(one, other)])
            self.write(one, other, reason)
        return self.numbers[(one, other)]
