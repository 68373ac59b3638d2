"""Chains, their chances, their closed groups and their own shares."""

from longago.errors import BadChain, NotOne
from longago.exact import fraction, solved
from longago.groups import groups_from

MOST_PLACES = 6
MOST_MOVES = 8
MOST_WEIGHT = 99


class Chain:
    """Places, numbered from 0, and moves (weight, whither), numbered from 0."""

    def __init__(self, many, moves):
        if not 1 <= many <= MOST_PLACES:
            raise BadChain(f"a chain has 1 to {MOST_PLACES} places, not {many}")
        if not 1 <= len(moves) <= MOST_MOVES:
            raise BadChain(f"a chain has 1 to {MOST_MOVES} moves, not {len(moves)}")
        for number, move in enumerate(moves):
            if not _is_move(many, move):
                raise BadChain(f"move {number} is no move of a chain with {many} places")
        self._many = many
        self._moves = list(moves)

    def places(self):
        """How many places the chain has."""
        return self._many

    def told(self):
        """The moves, in a list of the caller's own."""
        return list(self._moves)


def _is_move(many, move):
    """Whether this is a weight and a place for each of so many places."""
    if not isinstance(move, tuple) or len(move) != 2:
        return False
    weight, whither = move
    if weight not in range(1, MOST_WEIGHT + 1):
        return False
    if not isinstance(whither, tuple) or len(whither) != many:
        return False
    return all(place in range(many) for place in whither)


def chances(chain):
    """For each place the chances from it to each place."""
    return [[fraction(weight, sum(row)) for weight in row] for row in _weights(chain)]


def _weights(chain):
    """For each place the weights, each place's together, of the moves from it to each place."""
    rows = [[0] * chain.places() for _ in range(chain.places())]
    for weight, whither in chain.told():
        for begin, end in enumerate(whither):
            rows[begin][end] += weight
    return rows


def closed(chain):
    """All closed groups, each rising, by their least places."""
    moves = chain.told()
    reached = [_reached(moves, place) for place in range(chain.places())]
    return [group for place, group in enumerate(reached) if group[0] == place and _is_closed(reached, group)]


def _reached(moves, begin):
    """The place to begin at, and all places that moves lead to from it, rising."""
    return sorted([group[0] for group in groups_from(moves, (begin,))])


def _is_closed(reached, group):
    """Whether from each place of the group just the group's places are reached."""
    return all(reached[place] == group for place in group)


def own(chain):
    """The chain's own shares; refused with NotOne where there are several closed groups."""
    groups = closed(chain)
    if len(groups) > 1:
        raise NotOne(groups)
    return solved(_balance(chain))


def _balance(chain):
    """The equations of the chain's own shares: what a step leads to a place is the place's share."""
    weights = _weights(chain)
    many = chain.places()
    rows = []
    # The last place's equation follows from the other ones,
    # so that all shares together are 1 stands in its stead.
    for end in range(many - 1):
        row = [weights[begin][end] for begin in range(many)]
        row[end] -= sum(weights[end])
        rows.append(row + [0])
    rows.append([1] * many + [1])
    return rows
