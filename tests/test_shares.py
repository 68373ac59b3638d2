"""Points [14] and [15]: shares behind so many steps, and for ever."""

import unittest
from fractions import Fraction
from itertools import product
from math import gcd, prod

from helping import (
    FLIP, LADDER, ONE_PLACE, SPLIT, STAY, apart_pairs, chains_apart, chains_that_meet, ends_back, some_chains, told_as,
    total_of,
)
from longago.chains import Chain, own
from longago.errors import NeverOne, NoSuch, TooMany
from longago.shares import long_shares, shares

# Of each of these all places meet, and walks come to just so many maps that don't lead all to one.
JUST_SO_MANY = [
    (29, Chain(4, [(2, (1, 1, 0, 3)), (3, (0, 2, 1, 0)), (2, (2, 2, 1, 1))])),
    (29, Chain(5, [(1, (3, 0, 3, 3, 1)), (1, (1, 4, 4, 0, 1))])),
    (30, Chain(4, [(1, (1, 3, 0, 0)), (3, (0, 2, 3, 2))])),
    (30, Chain(5, [(2, (4, 0, 3, 2, 4)), (3, (4, 0, 2, 2, 0)), (1, (4, 0, 4, 1, 0))])),
    (31, Chain(4, [(2, (3, 0, 2, 3)), (1, (2, 1, 2, 0)), (1, (0, 1, 2, 1))])),
    (31, Chain(5, [(1, (4, 4, 0, 3, 2)), (1, (0, 0, 4, 3, 3))])),
    (32, Chain(4, [(1, (1, 1, 1, 2)), (2, (2, 0, 3, 3)), (2, (2, 2, 3, 2))])),
]
TURNS = Chain(6, [(1, (1, 2, 3, 4, 5, 0)), (1, (1, 0, 2, 3, 4, 5))])


def place_of(chain, numbers):
    """The place that a row draws, however far back, or None."""
    for far in range(len(numbers) + 1):
        ends = ends_back(chain, numbers, far)
        if len(ends) == 1:
            return ends[0]
    return None


def by_all_rows(chain, far):
    """What shares tells, by all rows one after another."""
    by_place = {place: Fraction(0) for place in list(range(chain.places())) + [None]}
    weights = [weight for weight, _ in chain.told()]
    for numbers in product(range(len(weights)), repeat=far):
        by_place[place_of(chain, list(numbers))] += prod(weights[number] for number in numbers)
    told = [told_as(weight / total_of(chain) ** far) for weight in by_place.values()]
    return told[:-1], told[-1]


def by_maps(chain, far):
    """What shares tells, by the weights of all maps, each made longer by a step ahead of it."""
    weights = {tuple(range(chain.places())): 1}
    for _ in range(far):
        longer = {}
        for ends, weight in weights.items():
            for more, whither in chain.told():
                begun = tuple(ends[place] for place in whither)
                longer[begun] = longer.get(begun, 0) + weight * more
        weights = longer
    total = total_of(chain) ** far
    ones = [Fraction(weights.get((place,) * chain.places(), 0), total) for place in range(chain.places())]
    return [told_as(one) for one in ones], told_as(1 - sum(ones))


def maps_of(chain):
    """All maps to which walks from all places can come that don't lead all places to one."""
    found = {tuple(range(chain.places()))}
    fresh = list(found)
    while fresh:
        ends = fresh.pop()
        for _, whither in chain.told():
            led = tuple(whither[place] for place in ends)
            if led not in found:
                found.add(led)
                fresh.append(led)
    return [ends for ends in found if len(set(ends)) > 1]


class Shares(unittest.TestCase):
    def assert_told(self, chain, far, wanted):
        told = shares(chain, far)
        self.assertEqual(told, wanted, (chain.told(), far))
        self.assertIs(type(told), tuple)
        self.assertIs(type(told[0]), list)
        self.assertEqual(len(told[0]), chain.places())
        fractions = told[0] + [told[1]]
        self.assertEqual(sum(Fraction(*each) for each in fractions), 1)
        for top, bottom in fractions:
            self.assertEqual(gcd(top, bottom), 1)
            self.assertGreaterEqual(bottom, 1)
            self.assertGreaterEqual(top, 0)

    def test_by_hand(self):
        self.assert_told(LADDER, 0, ([(0, 1)] * 3, (1, 1)))
        self.assert_told(LADDER, 1, ([(0, 1)] * 3, (1, 1)))
        self.assert_told(LADDER, 2, ([(1, 9), (0, 1), (4, 9)], (4, 9)))
        self.assert_told(Chain(2, [(1, (0, 0)), (99, (1, 0))]), 1, ([(1, 100), (0, 1)], (99, 100)))
        self.assert_told(Chain(2, [(1, (0, 0)), (99, (1, 0))]), 2, ([(1, 100), (99, 10000)], (9801, 10000)))

    def test_one_place_is_drawn_always(self):
        for far in range(21):
            self.assert_told(ONE_PLACE, far, ([(1, 1)], (0, 1)))

    def test_no_steps_draw_nothing_of_several_places(self):
        for chain in some_chains():
            if chain.places() > 1:
                self.assert_told(chain, 0, ([(0, 1)] * chain.places(), (1, 1)))

    def test_chains_of_which_nothing_is_ever_drawn(self):
        for chain in [FLIP, STAY, SPLIT, TURNS] + chains_apart():
            for far in (0, 1, 2, 19, 20):
                self.assert_told(chain, far, ([(0, 1)] * chain.places(), (1, 1)))

    def test_against_all_rows(self):
        least = {far: 40 for far in range(7)}
        for chain in some_chains()[::2]:
            for far in least:
                if len(chain.told()) ** far <= 64:
                    self.assert_told(chain, far, by_all_rows(chain, far))
                    least[far] -= 1
        self.assertEqual([far for far, missing in least.items() if missing > 0], [])

    def test_weights_1_and_99_and_moves_alike_against_all_rows(self):
        chain = Chain(3, [(1, (0, 0, 1)), (99, (1, 2, 2)), (1, (0, 0, 1))])
        for far in range(7):
            self.assert_told(chain, far, by_all_rows(chain, far))
        chain = Chain(4, [(99, (1, 2, 3, 3)), (99, (1, 2, 3, 3)), (1, (0, 0, 2, 1))])
        for far in range(7):
            self.assert_told(chain, far, by_all_rows(chain, far))

    def test_a_place_is_drawn_where_the_rows_end_not_where_walks_are_first_one(self):
        chain = Chain(2, [(1, (0, 0)), (1, (1, 0))])
        self.assert_told(chain, 2, ([(1, 2), (1, 4)], (1, 4)))
        self.assert_told(chain, 3, ([(5, 8), (1, 4)], (1, 8)))

    def test_twenty_steps(self):
        told = 0
        for chain in some_chains():
            if len(maps_of(chain)) <= 60:
                told += 1
                self.assert_told(chain, 20, by_maps(chain, 20))
        self.assertGreater(told, 100)

    def test_all_lengths(self):
        for chain in some_chains()[::9]:
            if len(maps_of(chain)) <= 300:
                for far in range(21):
                    self.assert_told(chain, far, by_maps(chain, far))

    def test_the_share_of_a_place_never_sinks(self):
        for chain in some_chains()[::4]:
            behind = [Fraction(0)] * chain.places()
            for far in range(12):
                before = behind
                behind = [Fraction(*each) for each in shares(chain, far)[0]]
                self.assertTrue(all(one <= other for one, other in zip(before, behind)))

    def test_counts_of_steps_that_are_none(self):
        for chain in (ONE_PLACE, FLIP, LADDER, SPLIT):
            for far in (-1, 21, -2, -20, -21, 22, 100, 1000000, -1000000):
                self.assertRaises(NoSuch, shares, chain, far)


class LongShares(unittest.TestCase):
    def test_by_hand(self):
        self.assertEqual(long_shares(ONE_PLACE), [(1, 1)])
        self.assertEqual(long_shares(LADDER), [(1, 7), (2, 7), (4, 7)])
        self.assertEqual(long_shares(Chain(2, [(1, (0, 0)), (1, (1, 0))])), [(2, 3), (1, 3)])

    def test_the_chains_own_shares(self):
        told = 0
        for chain in chains_that_meet():
            if len(maps_of(chain)) <= 30:
                told += 1
                self.assertEqual(long_shares(chain), own(chain))
        self.assertGreater(told, 100)

    def test_shares_come_near_to_them(self):
        near = 0
        for chain in chains_that_meet():
            if len(maps_of(chain)) <= 30:
                behind, rest = shares(chain, 20)
                for low, share in zip(behind, long_shares(chain)):
                    self.assertLessEqual(Fraction(*low), Fraction(*share))
                    self.assertLessEqual(Fraction(*share), Fraction(*low) + Fraction(*rest))
                near += Fraction(*rest) < Fraction(1, 1000)
        self.assertGreater(near, 60)

    def test_thirty_maps_and_a_map_more(self):
        for many, chain in JUST_SO_MANY:
            self.assertEqual(len(maps_of(chain)), many)
            self.assertEqual(apart_pairs(chain), [])
            if many > 30:
                self.assertRaises(TooMany, long_shares, chain)
            else:
                self.assertEqual(long_shares(chain), own(chain))

    def test_too_many_maps(self):
        refused = 0
        for chain in chains_that_meet():
            if len(maps_of(chain)) > 30:
                refused += 1
                self.assertRaises(TooMany, long_shares, chain)
        self.assertGreater(refused, 25)

    def test_maps_that_lead_all_to_one_do_not_count(self):
        chain = Chain(6, [(1, (place,) * 6) for place in range(6)] + [(1, (0, 1, 2, 3, 4, 5))])
        self.assertEqual(long_shares(chain), [(1, 6)] * 6)

    def test_a_pair_that_never_meets(self):
        for chain, pair in [(FLIP, (0, 1)), (STAY, (0, 1)), (Chain(4, [(1, (3, 3, 3, 2))]), (0, 3))]:
            with self.assertRaises(NeverOne) as caught:
                long_shares(chain)
            self.assertEqual(caught.exception.pair, pair)

    def test_that_all_meet_is_wanted_ahead_of_few_maps(self):
        both = 0
        for chain in chains_apart() + [TURNS]:
            with self.assertRaises(NeverOne) as caught:
                long_shares(chain)
            self.assertEqual(caught.exception.pair, apart_pairs(chain)[0])
            self.assertIs(type(caught.exception.pair), tuple)
            both += len(maps_of(chain)) > 30
        self.assertGreater(both, 5)


if __name__ == "__main__":
    unittest.main()
