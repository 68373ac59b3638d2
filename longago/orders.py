"""Orders of the places, and draws by the two ends of an order alone."""

from itertools import permutations

from longago.errors import NoSuch, NotOrdered
from longago.walks import drawn_from


def keeps_order(chain, order):
    """Whether all moves keep the order."""
    return _first_breaking(chain, order) is None


def first_order(chain):
    """The least order that all moves keep, or None."""
    for places in permutations(range(chain.places())):
        order = list(places)
        if keeps_order(chain, order):
            return order
    return None


def by_ends(chain, order, numbers):
    """What drawn tells, by the walks from the lowest and the highest place alone."""
    breaking = _first_breaking(chain, order)
    if breaking is not None:
        raise NotOrdered(breaking)
    # Walks from all other places stay between these two, so they are one where these are.
    return drawn_from(chain, [order[0], order[-1]], numbers)


def _first_breaking(chain, order):
    """The first move that doesn't keep the order, or None; NoSuch for what is no order."""
    if sorted(order) != list(range(chain.places())):
        raise NoSuch(f"{order} is no order of {chain.places()} places")
    for number, (_, whither) in enumerate(chain.told()):
        if not _keeps(whither, order):
            return number
    return None


def _keeps(whither, order):
    """Whether places in this order are led to places in this order, or to one."""
    stands = [order.index(whither[place]) for place in order]
    return stands == sorted(stands)
