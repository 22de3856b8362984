"""A row of numbers that keeps all the links between them, or a ring of some of the links."""

# Where the two numbers of a link stand in its tuple.
ONE = 0
OTHER = 1


def links_by(place, numbers, links):
    """For each number a list of the links that have it at that place."""
    found = {}
    for number in numbers:
        found[number] = []
    for link in links:
        found[link[place]].append(link)
    return found


def longest_row(numbers, links):
    """As many of the numbers as can stand in a row, each behind all that must come ahead of it."""
    links_from = links_by(ONE, numbers, links)
    links_to = links_by(OTHER, numbers, links)
    unkept = {}
    for number in numbers:
        unkept[number] = len(links_to[number])
    ready = [number for number in numbers if unkept[number] == 0]
    row = []
    while len(ready) > 0:
        number = ready.pop()
        row.append(number)
        for link in links_from[number]:
            other = link[OTHER]
            unkept[other] = unkept[other] - 1
            if unkept[other] == 0:
                ready.append(other)
    return row


def ring_behind(links):
    """A ring of some of the links, where each one's first number is also the second number of one of them."""
    link_to = {}
    for link in links:
        link_to[link[OTHER]] = link
    # Against the links the walk can always go on, so it comes at last to a number that it has met.
    number = links[0][OTHER]
    met = {}
    walked = []
    while number not in met:
        met[number] = len(walked)
        walked.append(link_to[number])
        number = link_to[number][ONE]
    return list(reversed(walked[met[number]:]))


def row_or_ring(numbers, links):
    """A pair: "row" and a row of the numbers that keeps all the links, or "ring" and a ring of some of them."""
    row = longest_row(numbers, links)
    if len(row) == len(numbers):
        return ("row", row)
    placed = {}
    for number in row:
        placed[number] = True
    # A number has no place only where a link comes to it from another one that has none.
    return ("ring", ring_behind([link for link in links if link[ONE] not in placed]))
