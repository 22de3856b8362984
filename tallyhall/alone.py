"""Dealings done alone, one behind the other."""


def seen_alone(steps, amounts):
    """What the looks of one dealing see; the amounts that it puts are put into the dict of amounts."""
    seen = []
    for step in steps:
        good = step[1]
        if step[0] == "look":
            seen.append(amounts.get(good, 0))
        else:
            amounts[good] = step[2]
    return seen


def done_alone(dealings):
    """What the looks of each dealing see, and the amounts behind, as pairs in the order of the goods."""
    amounts = {}
    seen = []
    for steps in dealings:
        seen.append(seen_alone(steps, amounts))
    return (seen, sorted(amounts.items()))
