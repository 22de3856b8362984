"""The links between the records of dealings that have ended."""

# Where the parts of a record stand in its tuple.
NUMBER = 0
BEGAN = 1
ENDED = 2
LOOKED = 3
PUT = 4


def in_both(goods, others):
    """The goods that stand in both lists."""
    return sorted(set(goods) & set(others))


def links_for(one, other, goods, why):
    """A link from the one record to the other for each of the goods."""
    return [(one[NUMBER], other[NUMBER], good, why) for good in goods]


def links_between(one, other):
    """All links from the one record to the other."""
    links = []
    if one[ENDED] < other[ENDED]:
        links.extend(links_for(one, other, in_both(one[PUT], other[PUT]), "over"))
    if one[ENDED] <= other[BEGAN]:
        links.extend(links_for(one, other, in_both(one[PUT], other[LOOKED]), "saw"))
    if other[ENDED] > one[BEGAN]:
        links.extend(links_for(one, other, in_both(one[LOOKED], other[PUT]), "missed"))
    return links


def links_of(records):
    """All links between any two of the records, in the order of Python's tuples."""
    links = []
    for one in records:
        for other in records:
            # A dealing may look at what it puts itself; that is no link.
            if one[NUMBER] != other[NUMBER]:
                links.extend(links_between(one, other))
    return sorted(links)
