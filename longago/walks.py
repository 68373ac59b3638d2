"""Walks by rows of numbers, on from a place or from so far back that they end as one."""

from longago.errors import NoSuch


def steps_of(chain, numbers):
    """For each number whither its move leads; a number that is no move is refused with NoSuch."""
    whithers = [whither for _, whither in chain.told()]
    for number in numbers:
        if number not in range(len(whithers)):
            raise NoSuch(f"there is no move {number}")
    return [whithers[number] for number in numbers]


def walked(chain, begin, numbers):
    """The places of the walk from a place, the place itself first."""
    steps = steps_of(chain, numbers)
    if begin not in range(chain.places()):
        raise NoSuch(f"there is no place {begin}")
    places = [begin]
    for whither in steps:
        places.append(whither[places[-1]])
    return places


def together(chain, numbers):
    """For each place where the walk from it ends."""
    return _ends(chain, steps_of(chain, numbers))


def _ends(chain, steps):
    """For each place where these steps, the first one first, lead it."""
    ends = list(range(chain.places()))
    for whither in steps:
        ends = [whither[place] for place in ends]
    return ends


def drawn(chain, numbers):
    """(place, far): the place that is drawn and how far back that goes, or None."""
    return drawn_from(chain, list(range(chain.places())), numbers)


def drawn_from(chain, begins, numbers):
    """What drawn tells, by the walks from these places alone."""
    steps = steps_of(chain, numbers)
    ends = list(range(chain.places()))
    seen = list(begins)
    far = 0
    while far < len(steps) and not _are_one(seen):
        # A walk that begins a step farther back first does that step,
        # and then ends where the walk from there is known to end.
        ends = [ends[place] for place in steps[far]]
        seen = [ends[place] for place in begins]
        far += 1
    if _are_one(seen):
        return seen[0], far
    return None


def _are_one(ends):
    """Whether all walks end at one place."""
    return len(set(ends)) == 1


def tries(chain, numbers):
    """(far, ends) for 1, 2, 4, .. steps back, up to the first by which all are one."""
    steps = steps_of(chain, numbers)
    told = []
    far = 1
    while far <= len(steps):
        ends = _ends(chain, steps[:far][::-1])
        told.append((far, sorted(set(ends))))
        if _are_one(ends):
            return told
        far *= 2
    return told
