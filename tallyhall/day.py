"""The deeds of a day, done one by one at a tally."""

from tallyhall.tally import Tally


def answer_to_end(tally, number):
    """The answer where a dealing under way is to end."""
    ring = tally.end(number)
    if len(ring) == 0:
        return "ended"
    return ring


def answer_under_way(tally, deed):
    """The answer to a deed of a dealing that is under way."""
    number = deed[1]
    if deed[0] == "look":
        return tally.look(number, deed[2])
    if deed[0] == "put":
        tally.put(number, deed[2], deed[3])
        return "put"
    if deed[0] == "end":
        return answer_to_end(tally, number)
    tally.leave(number)
    return "left"


def answer_to(tally, deed):
    """The answer to a deed, which is done at the tally."""
    if deed[0] == "begin":
        return tally.begin()
    if deed[0] == "sweep":
        return tally.sweep()
    if deed[1] not in tally.under_way:
        return None
    return answer_under_way(tally, deed)


def answers_at(tally, deeds):
    """The answers to the deeds, which are done at the tally in their order."""
    told = []
    for deed in deeds:
        told.append(answer_to(tally, deed))
    return told


def tally_behind(deeds):
    """The tally as it is behind a day."""
    tally = Tally()
    answers_at(tally, deeds)
    return tally


def answers(deeds):
    """The answers of a day."""
    return answers_at(Tally(), deeds)


def records_behind(deeds):
    """The records of the dealings that have ended behind a day, in the order of their endings."""
    return tally_behind(deeds).records


def ending(deeds):
    """A row of the dealings that have ended which keeps all their links, and the amounts of the tally."""
    tally = tally_behind(deeds)
    return (tally.row, tally.amounts())
