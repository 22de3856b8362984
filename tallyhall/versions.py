"""The versions of a good: what it amounts to at a moment, and how they are swept."""


def reached(versions, moment):
    """How many versions have a moment that is no greater; as moments rise, these are the first ones."""
    return len([version for version in versions if version[0] <= moment])


def value_at(versions, moment):
    """The amount of the good at a moment."""
    count = reached(versions, moment)
    if count == 0:
        return 0
    return versions[count - 1][1]


def swept(versions, moment):
    """The versions that are left when they are swept from a moment on."""
    # The last version reached stays: the amount at the moment itself is still told by it.
    gone = max(reached(versions, moment) - 1, 0)
    return versions[gone:]
