"""The points of the document read word by word, slowly and plainly, for the tests to compare with."""

import itertools


def amount_by_point_2(versions, moment):
    amounts = [amount for since, amount in versions if since <= moment]
    return amounts[-1] if amounts else 0


def left_by_point_3(versions, moment):
    left = []
    for place, version in enumerate(versions):
        behind = versions[place + 1:]
        if not any(since <= moment for since, _ in behind):
            left.append(version)
    return left


def links_by_point_8(records):
    links = []
    for one, other in itertools.permutations(records, 2):
        number, began, ended, looked, put = one
        other_number, other_began, other_ended, other_looked, other_put = other
        for good in sorted(set(looked + put + other_looked + other_put)):
            if good in put and good in other_put and ended < other_ended:
                links.append((number, other_number, good, "over"))
            if good in put and good in other_looked and ended <= other_began:
                links.append((number, other_number, good, "saw"))
            if good in looked and good in other_put and other_ended > began:
                links.append((number, other_number, good, "missed"))
    return sorted(links)


def why_no_row(row, numbers, links):
    """None where it is a row of the numbers that keeps all the links, by point 9; else a text that says why not."""
    if type(row) is not list:
        return "not a list"
    if sorted(row) != sorted(numbers):
        return "not all of the numbers, each once"
    places = {number: place for place, number in enumerate(row)}
    for link in links:
        if places[link[0]] >= places[link[1]]:
            return f"does not keep {link}"
    return None


def why_no_ring(ring, links):
    """None where it is a ring of some of the links, by point 9; else a text that says why not."""
    if type(ring) is not list or not ring:
        return "not a list of one link at least"
    among = set(links)
    for link in ring:
        if link not in among:
            return f"{link} is none of the links"
    for link, following in zip(ring, ring[1:] + ring[:1]):
        if link[1] != following[0]:
            return f"{following} does not begin where {link} ends"
    if len({link[0] for link in ring}) != len(ring):
        return "two links begin with the same number"
    return None


def there_is_a_row(numbers, links):
    """Whether some row keeps all the links: there is one just where no number must come ahead of itself."""
    ahead = {number: set() for number in numbers}
    for link in links:
        ahead[link[0]].add(link[1])
    for start in numbers:
        met = set()
        to_visit = list(ahead[start])
        while to_visit:
            number = to_visit.pop()
            if number == start:
                return False
            if number not in met:
                met.add(number)
                to_visit.extend(ahead[number])
    return True


class Day:
    """A day by points 4 to 7, 11 and 14. Each dealing gets a whole copy of the tally at its beginning.

    It does not tell which ring: where a dealing is to be broken off, the answer is a tuple of the word `ring` and of
    the links that count.
    """

    def __init__(self):
        self.begun = 0
        self.amounts = {}
        self.versions = {}
        self.under_way = {}
        self.records = []

    def answer(self, deed):
        return getattr(self, deed[0])(*deed[1:])

    def begin(self):
        self.under_way[self.begun] = {
            "began": len(self.records), "tally": dict(self.amounts), "looked": [], "put": {}}
        self.begun += 1
        return self.begun - 1

    def look(self, number, good):
        if number not in self.under_way:
            return None
        dealing = self.under_way[number]
        if good in dealing["put"]:
            return dealing["put"][good]
        dealing["looked"].append(good)
        return dealing["tally"].get(good, 0)

    def put(self, number, good, amount):
        if number not in self.under_way:
            return None
        self.under_way[number]["put"][good] = amount
        return "put"

    def end(self, number):
        if number not in self.under_way:
            return None
        dealing = self.under_way.pop(number)
        moment = len(self.records) + 1
        record = (number, dealing["began"], moment, sorted(set(dealing["looked"])), sorted(dealing["put"]))
        records = self.records + [record]
        links = links_by_point_8(records)
        if not there_is_a_row([one[0] for one in records], links):
            return ("ring", links)
        self.records = records
        self.amounts.update(dealing["put"])
        for good, amount in dealing["put"].items():
            self.versions.setdefault(good, []).append((moment, amount))
        return "ended"

    def leave(self, number):
        if number not in self.under_way:
            return None
        self.under_way.pop(number)
        return "left"

    def sweep(self):
        moment = len(self.records)
        if self.under_way:
            moment = min(dealing["began"] for dealing in self.under_way.values())
        ahead = sum(len(versions) for versions in self.versions.values())
        self.versions = {good: left_by_point_3(versions, moment) for good, versions in self.versions.items()}
        return ahead - sum(len(versions) for versions in self.versions.values())
