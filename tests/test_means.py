"""Points [16] and [17]: how far back draws go in the mean, and where walks are first one."""

import unittest
from fractions import Fraction
from itertools import product

from helping import (
    FLIP, LADDER, ONE_PLACE, SPLIT, STAY, apart_pairs, behind_of, chains_apart, chains_that_meet, ends_back, told_as,
    total_of,
)
from longago.chains import Chain, own
from longago.errors import NeverOne
from longago.shares import far_mean, first_met, shares

# By this chain the walks are first one at place 0 only, but the turn draws place 1 as well.
ONE_FIRST = Chain(2, [(1, (0, 0)), (1, (1, 0))])
BIG = Chain(6, [
    (3, (1, 2, 3, 4, 5, 0)), (99, (0, 1, 2, 3, 4, 4)), (1, (5, 4, 3, 2, 1, 0)), (7, (0, 0, 1, 2, 3, 4)),
    (50, (1, 1, 2, 3, 4, 5)), (2, (2, 1, 0, 4, 3, 5)), (2, (2, 1, 0, 4, 3, 5)), (98, (0, 2, 1, 3, 5, 4)),
])
TURN = Chain(6, [(1, (1, 2, 3, 4, 5, 0)), (1, (1, 1, 2, 3, 4, 5))])


def solved_by_fractions(rows, unknowns):
    """Gauss's way, the rows turned into fractions; several right sides stand behind the unknowns."""
    rows = [[Fraction(number) for number in row] for row in rows]
    for at in range(unknowns):
        lead = next(here for here in range(at, unknowns) if rows[here][at])
        rows[at], rows[lead] = rows[lead], rows[at]
        rows[at] = [number / rows[at][at] for number in rows[at]]
        for here in range(unknowns):
            by = rows[here][at]
            if here != at and by:
                rows[here] = [mine - by * other if other else mine for mine, other in zip(rows[here], rows[at])]
    return [row[unknowns:] for row in rows]


def by_groups(chain):
    """(first_met, far_mean), by what they are from each group of places on: the mean of what they are a step on."""
    many = chain.places()
    groups = [frozenset(range(many))]
    for group in groups:
        if len(group) > 1:
            groups += [led for led in behind_of(chain, {group: 1}) if led not in groups]
    rows = []
    for group in groups:
        row = [0] * len(groups)
        row[groups.index(group)] += total_of(chain)
        if len(group) == 1:
            met = [total_of(chain) * (place in group) for place in range(many)]
            rows.append(row + met + [0])
            continue
        for led, weight in behind_of(chain, {group: 1}).items():
            row[groups.index(led)] -= weight
        rows.append(row + [0] * many + [total_of(chain)])
    told = [told_as(each) for each in solved_by_fractions(rows, len(groups))[0]]
    return told[:-1], told[-1]


def bounds(chain, steps):
    """(lows of first_met, low of far_mean, the rest that is not one yet), by so many steps."""
    weights = {frozenset(range(chain.places())): 1}
    met = [0] * chain.places()
    mean = 0
    for _ in range(steps):
        apart = {group: weight for group, weight in weights.items() if len(group) > 1}
        mean = mean * total_of(chain) + sum(apart.values())
        weights = behind_of(chain, apart)
        met = [one * total_of(chain) + weights.get(frozenset([place]), 0) for place, one in enumerate(met)]
    rest = sum(weight for group, weight in weights.items() if len(group) > 1)
    total = total_of(chain) ** steps
    mean = Fraction(mean * total_of(chain), total)
    if chain.places() == 1:
        return [Fraction(1)], mean, Fraction(0)
    return [Fraction(one, total) for one in met], mean, Fraction(rest, total)


class FarMean(unittest.TestCase):
    def test_by_hand(self):
        self.assertEqual(far_mean(LADDER), (20, 7))
        self.assertEqual(far_mean(ONE_FIRST), (2, 1))
        self.assertEqual(far_mean(Chain(2, [(1, (0, 0)), (99, (1, 0))])), (100, 1))
        self.assertEqual(far_mean(Chain(3, [(1, (2, 2, 2)), (2, (0, 0, 0))])), (1, 1))
        self.assertEqual(far_mean(Chain(4, [(1, (0, 0, 1, 2))])), (3, 1))

    def test_nought_where_there_is_one_place(self):
        self.assertEqual(far_mean(ONE_PLACE), (0, 1))
        self.assertEqual(far_mean(Chain(1, [(9, (0,)), (99, (0,))])), (0, 1))

    def test_from_below_and_above(self):
        close = 0
        for chain in chains_that_meet():
            steps = 120
            _, low, rest = bounds(chain, steps)
            # In each further 120 steps no greater fraction stays apart than in the first ones.
            high = low + steps * rest / (1 - rest)
            told = far_mean(chain)
            self.assertIs(type(told), tuple)
            mean = Fraction(*told)
            self.assertEqual(told, told_as(mean))
            self.assertLessEqual(low, mean, chain.told())
            self.assertLessEqual(mean, high, chain.told())
            close += high - low < Fraction(1, 10 ** 6)
        self.assertGreater(close, 120)

    def test_by_the_fractions_that_go_just_so_far(self):
        """The mean is the sum of what is left behind each count of steps, by rows drawn one by one."""
        chain = Chain(2, [(2, (0, 0)), (3, (1, 1)), (5, (1, 0))])
        left = []
        for far in range(6):
            weight = 0
            for numbers in product(range(3), repeat=far):
                if len(ends_back(chain, list(numbers), far)) > 1:
                    weight += 2 ** numbers.count(0) * 3 ** numbers.count(1) * 5 ** numbers.count(2)
            left.append(Fraction(weight, 10 ** far))
        self.assertEqual(left, [Fraction(1, 2 ** far) for far in range(6)])
        self.assertEqual(far_mean(chain), (2, 1))

    def test_what_shares_leave_is_less_than_the_mean(self):
        for chain in chains_that_meet()[::3]:
            left = sum(Fraction(*shares(chain, far)[1]) for far in range(21))
            self.assertLessEqual(left, Fraction(*far_mean(chain)))

    def test_against_equations_over_groups(self):
        for chain in chains_that_meet()[::2] + [TURN, BIG]:
            self.assertEqual(far_mean(chain), by_groups(chain)[1], chain.told())

    def test_chains_with_many_maps(self):
        self.assertEqual(far_mean(BIG), by_groups(BIG)[1])
        _, low, rest = bounds(BIG, 400)
        mean = Fraction(*far_mean(BIG))
        self.assertLessEqual(low, mean)
        self.assertLessEqual(mean, low + 400 * rest / (1 - rest))

    def test_a_pair_that_never_meets(self):
        for chain in [FLIP, STAY, SPLIT] + chains_apart():
            with self.assertRaises(NeverOne) as caught:
                far_mean(chain)
            self.assertEqual(caught.exception.pair, apart_pairs(chain)[0])


class FirstMet(unittest.TestCase):
    def test_by_hand(self):
        self.assertEqual(first_met(Chain(3, [(1, (2, 2, 2)), (2, (0, 0, 0))])), [(2, 3), (0, 1), (1, 3)])
        self.assertEqual(first_met(Chain(4, [(1, (0, 0, 1, 2))])), [(1, 1), (0, 1), (0, 1), (0, 1)])
        self.assertEqual(first_met(LADDER), [(5, 21), (0, 1), (16, 21)])
        self.assertEqual(first_met(TURN), [(0, 1), (1, 1), (0, 1), (0, 1), (0, 1), (0, 1)])

    def test_one_place(self):
        self.assertEqual(first_met(ONE_PLACE), [(1, 1)])
        self.assertEqual(first_met(Chain(1, [(9, (0,)), (99, (0,))])), [(1, 1)])

    def test_it_need_not_be_the_chains_own_share(self):
        self.assertEqual(first_met(ONE_FIRST), [(1, 1), (0, 1)])
        self.assertEqual(own(ONE_FIRST), [(2, 3), (1, 3)])
        self.assertNotEqual(first_met(LADDER), own(LADDER))

    def test_it_may_be(self):
        chain = Chain(3, [(1, (0, 0, 0)), (5, (1, 1, 1)), (7, (2, 2, 2))])
        self.assertEqual(first_met(chain), own(chain))

    def test_against_equations_over_groups(self):
        other = 0
        for chain in chains_that_meet():
            told = first_met(chain)
            self.assertIs(type(told), list)
            self.assertEqual(told, by_groups(chain)[0], chain.told())
            self.assertEqual(sum(Fraction(*each) for each in told), 1)
            other += told != own(chain)
        self.assertGreater(other, 50)

    def test_chains_with_six_places_and_eight_moves(self):
        self.assertEqual(first_met(BIG), by_groups(BIG)[0])
        self.assertEqual(sum(Fraction(*each) for each in first_met(BIG)), 1)

    def test_from_below_and_above(self):
        close = 0
        for chain in chains_that_meet():
            lows, _, rest = bounds(chain, 120)
            for low, told in zip(lows, first_met(chain)):
                self.assertLessEqual(low, Fraction(*told))
                self.assertLessEqual(Fraction(*told), low + rest)
            close += rest < Fraction(1, 10 ** 6)
        self.assertGreater(close, 120)

    def test_a_pair_that_never_meets(self):
        for chain in [FLIP, STAY, SPLIT] + chains_apart():
            with self.assertRaises(NeverOne) as caught:
                first_met(chain)
            self.assertEqual(caught.exception.pair, apart_pairs(chain)[0])


if __name__ == "__main__":
    unittest.main()
