"""How great the shares are behind so many steps and for ever, and how far back draws go."""

from longago.chains import own
from longago.errors import NoSuch, TooMany
from longago.exact import added, fraction, solved
from longago.groups import everywhere, groups_from, led_to
from longago.meetings import want_meeting

MOST_FAR = 20
MOST_MAPS = 30

# Turned round, a row that is told from now back is a row in the order of its steps, of the same weight.
# So what is drawn, and how far back, is counted here by where steps lead all places, one step after another.


def shares(chain, far):
    """(a list, rest): each place's fraction of the rows of so many numbers, and that of those that draw nothing."""
    if far not in range(MOST_FAR + 1):
        raise NoSuch(f"shares are told of 0 to {MOST_FAR} steps, not of {far}")
    weights = {everywhere(chain): 1}
    for _ in range(far):
        weights = _behind_a_step(chain.told(), weights)
    total = sum(weights.values())
    ones = [weights.get((place,), 0) for place in range(chain.places())]
    return [fraction(one, total) for one in ones], fraction(total - sum(ones), total)


def _behind_a_step(moves, weights):
    """The weights of all groups a step on."""
    behind = {}
    for group, weight in weights.items():
        for more, whither in moves:
            led = led_to(whither, group)
            behind[led] = behind.get(led, 0) + weight * more
    return behind


def long_shares(chain):
    """For each place the fraction of endless rows by which it is drawn."""
    want_meeting(chain)
    if _has_too_many_maps(chain):
        raise TooMany(f"there are more than {MOST_MAPS} maps that don't lead all places to one")
    return own(chain)


def _has_too_many_maps(chain):
    """Whether walks from all places can come to too many maps that don't lead all places to one."""
    found = [everywhere(chain)]
    done = 0
    while done < len(found) and len(found) <= MOST_MAPS:
        for _, whither in chain.told():
            ends = tuple([whither[place] for place in found[done]])
            # Where walks are one they are so for ever: no other map comes of this one.
            if len(set(ends)) > 1 and ends not in found:
                found.append(ends)
        done += 1
    return len(found) > MOST_MAPS


def far_mean(chain):
    """The mean of how far back a draw goes."""
    mean = (0, 1)
    for group, count in _stays(chain).items():
        if len(group) > 1:
            mean = added(mean, count)
    return mean


def first_met(chain):
    """For each place the fraction of rows by which walks from all places are first one there."""
    stays = _stays(chain)
    return [stays.get((place,), (0, 1)) for place in range(chain.places())]


def _stays(chain):
    """For each group the mean of how often walks from all places stand just there, until they are one."""
    want_meeting(chain)
    groups = list(groups_from(chain.told(), everywhere(chain)))
    return dict(zip(groups, solved(_flow(chain, groups))))


def _flow(chain, groups):
    """The equations of the stays: walks begin in the first group, and come to others by steps from groups."""
    moves = chain.told()
    total = sum([weight for weight, _ in moves])
    rows = [[0] * (len(groups) + 1) for _ in groups]
    rows[0][-1] = total
    for at, group in enumerate(groups):
        rows[at][at] += total
        if len(group) > 1:
            for weight, whither in moves:
                led = groups.index(led_to(whither, group))
                rows[led][at] -= weight
    return rows
