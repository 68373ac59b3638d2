"""Point [11]: the row that brings all places together, or the pairs of places that never meet."""

import unittest
from itertools import combinations, product

from helping import FLIP, LADDER, ONE_PLACE, SPLIT, STAY, apart_pairs, chains_apart, chains_that_meet, end_of
from longago.chains import Chain
from longago.meetings import meeting

# A turn of six places and a move that brings just two of them together: no chain needs more steps.
TURN = Chain(6, [(1, (1, 2, 3, 4, 5, 0)), (1, (1, 1, 2, 3, 4, 5))])
MOST_ROWS = 700


def ends_of(chain, numbers):
    return {end_of(chain, place, numbers) for place in range(chain.places())}


def first_row(chain):
    """The first row that leads all places to one, out of all rows by length and then in order."""
    tried = 0
    for length in range(26):
        for numbers in product(range(len(chain.told())), repeat=length):
            if len(ends_of(chain, numbers)) == 1:
                return list(numbers)
            tried += 1
            if tried > MOST_ROWS:
                return None
    return None


def steps_to_one(chain):
    """For each group of places how many steps at least lead it to one place."""
    many = chain.places()
    steps = {frozenset([place]): 0 for place in range(many)}
    groups = [frozenset(group) for size in range(2, many + 1) for group in combinations(range(many), size)]
    for count in range(1, 27):
        for group in [group for group in groups if group not in steps]:
            led = [frozenset(whither[place] for place in group) for _, whither in chain.told()]
            if any(steps.get(to, count) < count for to in led):
                steps[group] = count
    return steps


def least_row(chain):
    """By each number the least one that leaves no more steps than need be."""
    steps = steps_to_one(chain)
    group = frozenset(range(chain.places()))
    numbers = []
    while len(group) > 1:
        for number, (_, whither) in enumerate(chain.told()):
            led = frozenset(whither[place] for place in group)
            if steps.get(led, 99) == steps[group] - 1:
                numbers.append(number)
                group = led
                break
    return numbers


def come_to(chain, pair):
    """All pairs to which rows lead a pair, by steps as many as there are pairs, rising."""
    found = {pair}
    for _ in range(15):
        found |= {tuple(sorted((whither[one], whither[other]))) for _, whither in chain.told() for one, other in found}
    return sorted(found)


class Rows(unittest.TestCase):
    def test_one_place(self):
        self.assertEqual(meeting(ONE_PLACE), ("row", []))
        self.assertEqual(meeting(Chain(1, [(9, (0,))] * 8)), ("row", []))

    def test_by_hand(self):
        self.assertEqual(meeting(LADDER), ("row", [0, 0]))
        self.assertEqual(meeting(Chain(2, [(1, (1, 0)), (1, (1, 1))])), ("row", [1]))
        self.assertEqual(meeting(Chain(3, [(1, (1, 2, 0)), (1, (0, 0, 2))])), ("row", [1, 0, 1]))

    def test_the_row_is_in_the_order_of_its_steps(self):
        # Move 1 leads them to 0 and 2, and then move 0 both to 1; the other way round two are left.
        chain = Chain(3, [(1, (1, 2, 1)), (1, (0, 0, 2))])
        self.assertEqual(meeting(chain), ("row", [1, 0]))
        self.assertEqual(ends_of(chain, [1, 0]), {1})
        self.assertEqual(ends_of(chain, [0, 1]), {0, 2})

    def test_of_two_shortest_rows_the_least(self):
        self.assertEqual(meeting(Chain(2, [(1, (1, 1)), (99, (0, 0))])), ("row", [0]))
        self.assertEqual(meeting(Chain(2, [(1, (0, 1)), (1, (1, 1)), (99, (0, 0))])), ("row", [1]))
        self.assertEqual(meeting(Chain(3, [(1, (0, 1, 1)), (1, (1, 1, 2)), (1, (0, 1, 1))])), ("row", [0, 1]))

    def test_a_short_row_is_ahead_of_a_lesser_longer_one(self):
        chain = Chain(3, [(1, (0, 0, 1)), (1, (2, 2, 2))])
        self.assertEqual(meeting(chain), ("row", [1]))

    def test_moves_alike(self):
        self.assertEqual(meeting(Chain(3, [(1, (0, 0, 1))] * 8)), ("row", [0, 0]))
        self.assertEqual(meeting(Chain(2, [(1, (1, 0)), (2, (1, 1)), (3, (1, 1))])), ("row", [1]))

    def test_the_longest_row_of_all(self):
        kind, numbers = meeting(TURN)
        self.assertEqual(kind, "row")
        self.assertEqual(len(numbers), 25)
        self.assertEqual(numbers, least_row(TURN))
        self.assertEqual(ends_of(TURN, numbers), {1})

    def test_against_all_rows(self):
        found = 0
        for chain in chains_that_meet():
            wanted = first_row(chain)
            if wanted is not None:
                found += 1
                self.assertEqual(meeting(chain), ("row", wanted), chain.told())
        self.assertGreater(found, 150)

    def test_many_chains_of_every_size(self):
        sizes = set()
        for chain in chains_that_meet():
            told = meeting(chain)
            self.assertIs(type(told), tuple)
            self.assertEqual(told, ("row", least_row(chain)), chain.told())
            self.assertEqual(len(ends_of(chain, told[1])), 1)
            sizes.add((chain.places(), len(chain.told())))
        self.assertIn((6, 8), sizes)
        self.assertEqual({many for many, _ in sizes}, {1, 2, 3, 4, 5, 6})


class Apart(unittest.TestCase):
    def test_two_places(self):
        self.assertEqual(meeting(FLIP), ("apart", [(0, 1)]))
        self.assertEqual(meeting(STAY), ("apart", [(0, 1)]))

    def test_each_pair_is_told_with_the_lesser_place_first_and_once(self):
        self.assertEqual(meeting(Chain(3, [(1, (1, 0, 2)), (1, (1, 2, 0))])), ("apart", [(0, 1), (0, 2), (1, 2)]))
        self.assertEqual(meeting(Chain(4, [(1, (3, 2, 1, 0))])), ("apart", [(0, 1), (2, 3)]))

    def test_only_the_pairs_that_the_least_one_can_come_to(self):
        chain = Chain(6, [(1, (0, 1, 2, 3, 4, 5))])
        self.assertEqual(meeting(chain), ("apart", [(0, 1)]))
        self.assertEqual(len(apart_pairs(chain)), 15)
        chain = Chain(5, [(1, (1, 2, 2, 3, 4)), (2, (2, 2, 2, 4, 3))])
        self.assertEqual(apart_pairs(chain)[0], (0, 3))
        self.assertEqual(meeting(chain), ("apart", [(0, 3), (1, 3), (2, 3), (2, 4)]))

    def test_pairs_that_moves_lead_further(self):
        self.assertEqual(meeting(Chain(4, [(1, (2, 3, 2, 3))])), ("apart", [(0, 1), (2, 3)]))
        self.assertEqual(meeting(SPLIT), ("apart", come_to(SPLIT, apart_pairs(SPLIT)[0])))

    def test_the_least_pair_need_not_be_of_the_least_places(self):
        chain = Chain(4, [(1, (3, 3, 3, 2))])
        self.assertEqual(meeting(chain), ("apart", [(0, 3), (2, 3)]))
        chain = Chain(6, [(1, (0, 0, 0, 0, 0, 5))])
        self.assertEqual(meeting(chain), ("apart", [(0, 5)]))

    def test_pairs_that_meet_are_none_of_them(self):
        chain = Chain(4, [(5, (1, 1, 3, 2)), (5, (0, 0, 2, 3))])
        self.assertEqual(apart_pairs(chain), [(0, 2), (0, 3), (1, 2), (1, 3), (2, 3)])
        self.assertEqual(meeting(chain), ("apart", [(0, 2), (0, 3), (1, 2), (1, 3)]))

    def test_moves_alike(self):
        self.assertEqual(meeting(Chain(3, [(1, (0, 2, 1))] * 8)), ("apart", [(0, 1), (0, 2)]))

    def test_six_places_and_eight_moves(self):
        turns = [(number + 1, tuple((place + number) % 6 for place in range(6))) for number in range(8)]
        wanted = [(0, 1), (0, 5), (1, 2), (2, 3), (3, 4), (4, 5)]
        self.assertEqual(meeting(Chain(6, turns)), ("apart", wanted))

    def test_many_chains(self):
        several = 0
        for chain in chains_apart():
            told = meeting(chain)
            self.assertIs(type(told), tuple)
            kind, pairs = told
            self.assertEqual(kind, "apart")
            self.assertEqual(pairs, come_to(chain, apart_pairs(chain)[0]), chain.told())
            for one, other in pairs:
                self.assertLess(one, other)
                for _, whither in chain.told():
                    self.assertIn(tuple(sorted((whither[one], whither[other]))), pairs)
            self.assertTrue(all(type(pair) is tuple for pair in pairs))
            several += len(apart_pairs(chain)) > len(pairs) > 1
        self.assertGreater(several, 20)


if __name__ == "__main__":
    unittest.main()
