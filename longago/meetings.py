"""Which row brings all places together, or which places never meet."""

from itertools import combinations

from longago.errors import NeverOne
from longago.groups import everywhere, groups_from


def meeting(chain):
    """("row", numbers): the least row by which all are one; or ("apart", pairs) that never meet."""
    moves = chain.told()
    row = _row_to_one(moves, everywhere(chain))
    if row is not None:
        return "row", row
    return "apart", sorted(groups_from(moves, _first_apart(chain)))


def want_meeting(chain):
    """Refuse with NeverOne a chain of which not all places meet."""
    pair = _first_apart(chain)
    if pair is not None:
        raise NeverOne(pair)


def _first_apart(chain):
    """The least pair of places that never meet, or None."""
    moves = chain.told()
    for pair in combinations(range(chain.places()), 2):
        if _row_to_one(moves, pair) is None:
            return pair
    return None


def _row_to_one(moves, group):
    """The least of the shortest rows that lead a group to one place, or None."""
    for led, row in groups_from(moves, group).items():
        if len(led) == 1:
            return row
    return None
