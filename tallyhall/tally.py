"""The tally, and the dealings that are under way at it."""

from tallyhall.links import NUMBER, links_with
from tallyhall.rows import ONE, row_or_ring
from tallyhall.versions import swept, value_at


def turned(ring, number):
    """The same ring, with the link first that begins with the number."""
    place = [link[ONE] for link in ring].index(number)
    return ring[place:] + ring[:place]


class Dealing:
    def __init__(self, number, began):
        self.number = number
        self.began = began
        self.looked = {}
        self.aside = {}

    def record(self, ended):
        """The record of the dealing, if that is the moment behind its ending."""
        return (self.number, self.began, ended, sorted(self.looked), sorted(self.aside))


class Tally:
    def __init__(self):
        self.begun = 0
        self.under_way = {}
        self.versions = {}
        # Even what ended long ago may stand in a ring, so no record is ever let go; and as the links between those
        # that have ended stay as they are, they are kept, with a row that keeps them.
        self.records = []
        self.links = []
        self.row = []

    def moment(self):
        """How many dealings have ended so far."""
        return len(self.records)

    def begin(self):
        """A dealing begins; its number."""
        number = self.begun
        self.begun = number + 1
        self.under_way[number] = Dealing(number, self.moment())
        return number

    def look(self, number, good):
        """The amount of the good that the dealing under way sees."""
        dealing = self.under_way[number]
        if good in dealing.aside:
            return dealing.aside[good]
        dealing.looked[good] = True
        return value_at(self.versions.get(good, []), dealing.began)

    def put(self, number, good, amount):
        """The dealing under way puts an amount to the good."""
        dealing = self.under_way[number]
        dealing.aside[good] = amount

    def leave(self, number):
        """The dealing under way is left."""
        self.under_way.pop(number)

    def end(self, number):
        """The dealing under way ends, or is broken off; the ring by which it is, or an empty list where it ends."""
        dealing = self.under_way.pop(number)
        record = dealing.record(self.moment() + 1)
        links = self.links + links_with(record, self.records)
        found = row_or_ring([ended[NUMBER] for ended in self.records] + [number], links)
        if found[0] == "ring":
            return turned(found[1], number)
        self.records.append(record)
        self.links = links
        self.row = found[1]
        self.take_over(dealing.aside)
        return []

    def take_over(self, aside):
        """Each good to which amounts have been put gets a version of the moment."""
        for good, amount in aside.items():
            self.versions.setdefault(good, []).append((self.moment(), amount))

    def sweep(self):
        """The versions go that no dealing can see any more; how many have gone."""
        beginnings = [dealing.began for dealing in self.under_way.values()]
        moment = min(beginnings, default=self.moment())
        gone = 0
        for good in list(self.versions):
            left = swept(self.versions[good], moment)
            gone = gone + len(self.versions[good]) - len(left)
            self.versions[good] = left
        return gone

    def amounts(self):
        """A pair of good and amount for each good that has a version, in the order of the goods."""
        return [(good, value_at(self.versions[good], self.moment())) for good in sorted(self.versions)]
