"""Points [2] to [6]: chains, fractions, chances, closed groups and own shares."""

import unittest
from fractions import Fraction
from math import gcd

from helping import FLIP, LADDER, ONE_PLACE, SPLIT, STAY, closed_of, some_chains, step_of, told_as
from longago.chains import Chain, chances, closed, own
from longago.errors import BadChain, NotOne


class WhatIsAChain(unittest.TestCase):
    def assert_told(self, many, moves):
        chain = Chain(many, moves)
        self.assertEqual(chain.places(), many)
        self.assertEqual(chain.told(), moves)
        self.assertIs(type(chain.told()), list)

    def test_one_place(self):
        self.assert_told(1, [(1, (0,))])

    def test_six_places(self):
        self.assert_told(6, [(1, (5, 4, 3, 2, 1, 0))])

    def test_each_number_of_places_between(self):
        for many in range(1, 7):
            self.assert_told(many, [(1, tuple(range(many)))])

    def test_one_to_eight_moves(self):
        for moves in range(1, 9):
            self.assert_told(2, [(number + 1, (0, 1)) for number in range(moves)])

    def test_weights_1_and_99(self):
        self.assert_told(2, [(1, (0, 1)), (99, (1, 0))])

    def test_moves_alike(self):
        self.assert_told(2, [(4, (0, 1)), (4, (0, 1)), (4, (0, 1))])

    def test_all_places_to_one(self):
        self.assert_told(3, [(4, (2, 2, 2)), (4, (0, 0, 0))])


class WhatIsNone(unittest.TestCase):
    def assert_bad(self, many, moves):
        with self.subTest(many=many, moves=moves):
            self.assertRaises(BadChain, Chain, many, moves)

    def assert_bad_move(self, many, bad):
        """The move is refused as the only, the first, a middle and the last one."""
        good = (1, tuple(range(many)))
        for moves in [[bad], [bad, good], [good, bad, good], [good, good, bad], [good] * 7 + [bad]]:
            self.assert_bad(many, moves)

    def test_no_places(self):
        self.assert_bad(0, [(1, ())])
        self.assert_bad(0, [(1, (0,))])

    def test_seven_places_and_more(self):
        self.assert_bad(7, [(1, (0, 1, 2, 3, 4, 5, 6))])
        self.assert_bad(7, [(1, (0,) * 7)])
        self.assert_bad(100, [(1, (0,) * 100)])

    def test_places_below_nought(self):
        for many in (-1, -2, -6):
            self.assert_bad(many, [(1, ())])
            self.assert_bad(many, [(1, (0,))])

    def test_no_moves(self):
        self.assert_bad(1, [])
        self.assert_bad(6, [])

    def test_nine_moves_and_more(self):
        self.assert_bad(1, [(1, (0,))] * 9)
        self.assert_bad(2, [(1, (0, 1))] * 100)

    def test_weights_out_of_bounds(self):
        for weight in (0, 100, -1, -99, 1000):
            for many in (1, 2, 6):
                self.assert_bad_move(many, (weight, tuple(range(many))))

    def test_a_whither_that_is_too_short(self):
        self.assert_bad_move(2, (1, (0,)))
        self.assert_bad_move(6, (1, (0, 1, 2, 3, 4)))

    def test_a_whither_that_is_too_long(self):
        self.assert_bad_move(1, (1, (0, 0)))
        self.assert_bad_move(2, (1, (0, 1, 1)))
        self.assert_bad_move(6, (1, (0, 1, 2, 3, 4, 5, 0)))

    def test_an_empty_whither(self):
        for many in (1, 2, 6):
            self.assert_bad_move(many, (1, ()))

    def test_a_place_that_is_none(self):
        for many in range(1, 7):
            for place in (-1, many, -many, 99):
                for at in range(many):
                    whither = list(range(many))
                    whither[at] = place
                    self.assert_bad_move(many, (1, tuple(whither)))

    def test_tuples_of_another_form(self):
        for bad in [(), (1,), ((0, 1),), (1, (0, 1), 1), (1, 0, 1), (1, 0), ((0, 1), 1), (1, ((0,), 1)), 3]:
            self.assert_bad_move(2, bad)


class Chances(unittest.TestCase):
    def test_a_chain_by_hand(self):
        third, thirds, nought = (1, 3), (2, 3), (0, 1)
        self.assertEqual(chances(LADDER), [[third, thirds, nought], [third, nought, thirds], [nought, third, thirds]])

    def test_one_place_has_the_chance_one(self):
        self.assertEqual(chances(ONE_PLACE), [[(1, 1)]])
        self.assertEqual(chances(Chain(1, [(98, (0,)), (99, (0,))])), [[(1, 1)]])

    def test_moves_alike_count_each(self):
        chain = Chain(2, [(2, (0, 0)), (2, (0, 0)), (4, (1, 0))])
        self.assertEqual(chances(chain), [[(1, 2), (1, 2)], [(1, 1), (0, 1)]])

    def test_the_greatest_weights(self):
        chain = Chain(2, [(99, (0, 0))] * 7 + [(1, (1, 1))])
        self.assertEqual(chances(chain), [[(693, 694), (1, 694)]] * 2)

    def test_many_chains(self):
        for chain in some_chains():
            total = sum(weight for weight, _ in chain.told())
            told = chances(chain)
            self.assertEqual(len(told), chain.places())
            for begin, row in enumerate(told):
                weights = [0] * chain.places()
                for weight, whither in chain.told():
                    weights[whither[begin]] += weight
                self.assertEqual(row, [told_as(Fraction(weight, total)) for weight in weights])
                self.assertEqual(sum(Fraction(*fraction) for fraction in row), 1)

    def test_all_fractions_are_in_lowest_terms(self):
        for chain in some_chains():
            for row in chances(chain):
                for fraction in row:
                    self.assertIs(type(fraction), tuple)
                    top, bottom = fraction
                    self.assertEqual(gcd(top, bottom), 1)
                    self.assertGreaterEqual(bottom, 1)
                    self.assertGreaterEqual(top, 0)


class Closed(unittest.TestCase):
    def test_one_place(self):
        self.assertEqual(closed(ONE_PLACE), [[0]])

    def test_all_places_as_one_group(self):
        self.assertEqual(closed(FLIP), [[0, 1]])
        self.assertEqual(closed(LADDER), [[0, 1, 2]])
        self.assertEqual(closed(Chain(6, [(1, (1, 2, 3, 4, 5, 0))])), [[0, 1, 2, 3, 4, 5]])

    def test_each_place_a_group(self):
        self.assertEqual(closed(Chain(6, [(1, (0, 1, 2, 3, 4, 5))])), [[0], [1], [2], [3], [4], [5]])

    def test_a_place_alone_and_places_in_none(self):
        self.assertEqual(closed(Chain(4, [(1, (1, 2, 3, 3))])), [[3]])
        self.assertEqual(closed(Chain(4, [(1, (0, 0, 1, 2))])), [[0]])

    def test_several_groups_and_a_place_in_none(self):
        self.assertEqual(closed(SPLIT), [[1, 4], [2, 3], [5]])

    def test_groups_that_stand_within_each_other(self):
        self.assertEqual(closed(Chain(6, [(1, (5, 3, 2, 4, 1, 0))])), [[0, 5], [1, 3, 4], [2]])

    def test_the_weights_do_not_matter(self):
        self.assertEqual(closed(Chain(2, [(99, (0, 1)), (1, (0, 0))])), [[0]])

    def test_many_chains(self):
        several = 0
        for chain in some_chains():
            self.assertEqual(closed(chain), closed_of(chain), chain.told())
            several += len(closed(chain)) > 1
        self.assertGreater(several, 20)


class Own(unittest.TestCase):
    def test_chains_by_hand(self):
        self.assertEqual(own(ONE_PLACE), [(1, 1)])
        self.assertEqual(own(FLIP), [(1, 2), (1, 2)])
        self.assertEqual(own(LADDER), [(1, 7), (2, 7), (4, 7)])

    def test_nought_outside_of_the_closed_group(self):
        self.assertEqual(own(Chain(4, [(1, (1, 2, 3, 3))])), [(0, 1), (0, 1), (0, 1), (1, 1)])
        self.assertEqual(own(Chain(4, [(1, (0, 0, 1, 2))])), [(1, 1), (0, 1), (0, 1), (0, 1)])
        self.assertEqual(own(Chain(3, [(3, (1, 2, 1)), (1, (0, 1, 1))])), [(0, 1), (4, 7), (3, 7)])

    def test_a_step_leaves_them_as_they_are(self):
        reckoned = 0
        for chain in some_chains():
            groups = closed_of(chain)
            if len(groups) > 1:
                continue
            reckoned += 1
            shares = [Fraction(*fraction) for fraction in own(chain)]
            self.assertEqual(own(chain), [told_as(share) for share in shares])
            self.assertEqual(step_of(chain, shares), shares)
            self.assertEqual(sum(shares), 1)
            self.assertEqual([place for place, share in enumerate(shares) if share > 0], groups[0])
            self.assertEqual([share for share in shares if share < 0], [])
        self.assertGreater(reckoned, 100)

    def test_all_fractions_are_in_lowest_terms(self):
        for chain in some_chains():
            if len(closed_of(chain)) == 1:
                for fraction in own(chain):
                    self.assertIs(type(fraction), tuple)
                    top, bottom = fraction
                    self.assertEqual(gcd(top, bottom), 1)
                    self.assertGreaterEqual(bottom, 1)

    def test_several_groups_are_refused_with_all_of_them(self):
        for chain, groups in [(STAY, [[0], [1]]), (SPLIT, [[1, 4], [2, 3], [5]])]:
            with self.assertRaises(NotOne) as caught:
                own(chain)
            self.assertEqual(caught.exception.groups, groups)

    def test_many_chains_with_several_groups(self):
        for chain in some_chains():
            groups = closed_of(chain)
            if len(groups) > 1:
                with self.assertRaises(NotOne) as caught:
                    own(chain)
                self.assertEqual(caught.exception.groups, groups)


if __name__ == "__main__":
    unittest.main()
