"""The links between the records of dealings that have ended."""

# Where the parts of a record stand in its tuple.
NUMBER = 0
BEGAN = 1
ENDED = 2
LOOKED = 3
PUT = 4


def in_both(goods, others):
    """The goods that stand in both lists."""
    return sorted(set(goods) & set(others))


def links_for(one, other, goods, why):
    """A link from the one record to the other for each of the goods."""
    return [(one[NUMBER], other[NUMBER], good, why) for good in goods]


def links_between(one, other):
    """All links from the one record to the other."""
    links = []
    if one[ENDED] < other[ENDED]:
        links.extend(links_for(one, other, in_both(one[PUT], other[PUT]), "over"))
    if one[ENDED] <= other[BEGAN]:
        links.extend(links_for(one, other, in_both(one[PUT], other[LOOKED]), "saw"))
    if other[ENDED] > one[BEGAN]:
        links.extend(links_for(one, other, in_both(one[LOOKED], other[PUT]), "missed"))
    return links


def links_with(record, others):
    """All links between the record and any of the others, either one of the two being the one."""
    links = []
    for other in others:
        links.extend(links_between(record, other))
        links.extend(links_between(other, record))
    return links


def links_of(records):
    """All links between any two of the records, in the order of Python's tuples."""
    links = []
    for place, record in enumerate(records):
        links.extend(links_with(record, records[:place]))
    return sorted(links)
