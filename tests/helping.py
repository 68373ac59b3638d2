"""Chains, rows and plain reckonings that the tests share."""

from fractions import Fraction
from itertools import combinations, product
from random import Random

from longago.chains import Chain

ONE_PLACE = Chain(1, [(1, (0,))])
FLIP = Chain(2, [(1, (1, 0))])
STAY = Chain(2, [(1, (0, 1))])
LADDER = Chain(3, [(1, (0, 0, 1)), (2, (1, 2, 2))])
# 0 can fall to the groups 1, 4 and 2, 3, and to 5 for ever.
SPLIT = Chain(6, [(3, (1, 4, 3, 2, 1, 5)), (1, (2, 1, 2, 3, 4, 5)), (99, (5, 4, 2, 2, 1, 5))])


def some_chains():
    """Small chains, one by one, and larger ones of every size."""
    chains = [ONE_PLACE, FLIP, STAY, LADDER, SPLIT]
    maps = list(product(range(2), repeat=2))
    chains += [Chain(2, [(3, one), (5, other)]) for one, other in product(maps, maps)]
    dice = Random(20261118)
    for many, moves in product(range(1, 7), range(1, 9)):
        for _ in range(6):
            chains.append(Chain(many, [some_move(dice, many) for _ in range(moves)]))
    return chains


def some_move(dice, many):
    """A move that leads few places astray, so that groups, and slow draws, occur, or one at will."""
    whither = list(range(many))
    for _ in range(dice.choice([1, 1, 2, 6])):
        whither[dice.randrange(many)] = dice.randrange(many)
    return dice.choice([1, 2, 50, 98, 99]), tuple(whither)


def some_rows(chain):
    """Rows of every length up to 9, and long ones."""
    dice = Random(7)
    lengths = [0, 1, 1, 2, 2, 3, 3, 4, 5, 6, 7, 8, 9, 16, 17, 40, 100]
    return [[dice.randrange(len(chain.told())) for _ in range(length)] for length in lengths]


def end_of(chain, place, numbers):
    """Where a walk ends, step by step."""
    for number in numbers:
        place = chain.told()[number][1][place]
    return place


def ends_back(chain, numbers, far):
    """All places at which walks end that begin so far back, the row being told from now back."""
    by = list(reversed(numbers[:far]))
    return sorted({end_of(chain, place, by) for place in range(chain.places())})


def reached_from(chain, place):
    """All places to which none, one or more moves lead from a place."""
    found = {place}
    for _ in range(chain.places()):
        found |= {whither[at] for _, whither in chain.told() for at in found}
    return found


def closed_of(chain):
    """The closed groups, by the document's own words: out of all lists of places."""
    groups = []
    for chosen in product([False, True], repeat=chain.places()):
        group = [place for place in range(chain.places()) if chosen[place]]
        if group and all(reached_from(chain, place) == set(group) for place in group):
            groups.append(group)
    return sorted(groups)


def step_of(chain, shares):
    """The shares behind a step, from the moves alone."""
    total = sum(weight for weight, _ in chain.told())
    behind = [Fraction(0)] * chain.places()
    for weight, whither in chain.told():
        for place, share in enumerate(shares):
            behind[whither[place]] += share * Fraction(weight, total)
    return behind


def told_as(fraction):
    """A Fraction as Longago tells it."""
    return fraction.numerator, fraction.denominator


def total_of(chain):
    """The weight of all moves."""
    return sum(weight for weight, _ in chain.told())


def meeting_pairs(chain):
    """All pairs of places that meet: those that a move leads to one place, or to a pair that meets."""
    met = set()
    for _ in range(16):
        for pair in combinations(range(chain.places()), 2):
            for _, whither in chain.told():
                led = tuple(sorted(whither[place] for place in pair))
                if led[0] == led[1] or led in met:
                    met.add(pair)
    return met


def apart_pairs(chain):
    """All pairs of places that never meet, rising."""
    met = meeting_pairs(chain)
    return [pair for pair in combinations(range(chain.places()), 2) if pair not in met]


def chains_that_meet():
    """Those of the chains of which all places meet."""
    return [chain for chain in some_chains() if not apart_pairs(chain)]


def chains_apart():
    """Those of the chains of which some places never meet."""
    return [chain for chain in some_chains() if apart_pairs(chain)]


def behind_of(chain, weights):
    """The weights of all groups of places, a step on."""
    behind = {}
    for group, weight in weights.items():
        for more, whither in chain.told():
            led = frozenset(whither[place] for place in group)
            behind[led] = behind.get(led, 0) + weight * more
    return behind


def ordered_chains():
    """(chain, order): chains of every size, and an order that all moves of the chain keep."""
    dice = Random(12)
    told = []
    for many, moves in product(range(1, 7), range(1, 9)):
        for _ in range(3):
            order = dice.sample(range(many), many)
            made = []
            for _ in range(moves):
                whither = [0] * many
                stands = sorted(dice.randrange(many) for _ in order)
                for place, stand in zip(order, stands):
                    whither[place] = order[stand]
                made.append((dice.choice([1, 2, 99]), tuple(whither)))
            told.append((Chain(many, made), order))
    return told
