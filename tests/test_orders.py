"""Points [12] and [13], and [7] for by_ends: orders of the places, and draws by their two ends."""

import unittest
from itertools import permutations

from helping import FLIP, LADDER, ONE_PLACE, STAY, ordered_chains, some_chains, some_rows
from longago.chains import Chain
from longago.errors import NoSuch, NotOrdered
from longago.orders import by_ends, first_order, keeps_order
from longago.walks import drawn

# Moves 0 and 2 keep each order, move 1 turns the first two places round, move 3 the last two.
TURNED = Chain(3, [(1, (0, 1, 2)), (1, (1, 0, 2)), (1, (2, 2, 2)), (1, (0, 2, 1))])


def orders_of(chain):
    """All orders, the least first."""
    return [list(order) for order in permutations(range(chain.places()))]


def breaking_of(chain, order):
    """The moves that don't keep the order, each two places looked at."""
    breaking = []
    for number, (_, whither) in enumerate(chain.told()):
        for at, ahead in enumerate(order):
            for behind in order[at + 1:]:
                if order.index(whither[ahead]) > order.index(whither[behind]) and number not in breaking:
                    breaking.append(number)
    return breaking


def no_orders(many):
    """Lists that are no order of so many places."""
    places = list(range(many))
    lists = [[], places + [0], places + [many], places[:-1], places[1:], [-1] + places[1:]]
    lists += [places[:-1] + [many], places[:-1] + [-1], places + places, [many] + places[1:], [99] * many]
    lists += [[place + 1 for place in places], [place - 1 for place in places], [place - many for place in places]]
    if many > 1:
        lists += [[0] * many, places[:-1] + [0], [places[-1]] + places[1:], places[:-2] + [many - 2] * 2]
    return lists


class KeepsOrder(unittest.TestCase):
    def test_by_hand(self):
        self.assertIs(keeps_order(LADDER, [0, 1, 2]), True)
        self.assertIs(keeps_order(LADDER, [2, 1, 0]), True)
        self.assertIs(keeps_order(LADDER, [0, 2, 1]), False)
        self.assertIs(keeps_order(FLIP, [0, 1]), False)
        self.assertIs(keeps_order(FLIP, [1, 0]), False)
        self.assertIs(keeps_order(STAY, [1, 0]), True)

    def test_one_place(self):
        self.assertIs(keeps_order(ONE_PLACE, [0]), True)

    def test_places_that_are_led_to_one_stand_in_order(self):
        for order in permutations(range(4)):
            self.assertIs(keeps_order(Chain(4, [(1, (2, 2, 2, 2)), (1, (0, 0, 0, 0))]), list(order)), True)

    def test_each_move_counts(self):
        for at in range(8):
            moves = [(1, (0, 1, 2))] * 8
            moves[at] = (1, (0, 2, 1))
            self.assertIs(keeps_order(Chain(3, moves), [0, 1, 2]), False)

    def test_places_that_do_not_stand_side_by_side_count(self):
        self.assertIs(keeps_order(Chain(3, [(1, (2, 1, 1))]), [0, 1, 2]), False)
        self.assertIs(keeps_order(Chain(3, [(1, (1, 1, 0))]), [0, 1, 2]), False)

    def test_all_orders_of_many_chains(self):
        told = {True: 0, False: 0}
        for chain in some_chains() + [chain for chain, _ in ordered_chains()]:
            for order in orders_of(chain)[::7 if chain.places() > 4 else 1]:
                wanted = not breaking_of(chain, order)
                self.assertIs(keeps_order(chain, order), wanted, (chain.told(), order))
                told[wanted] += 1
        self.assertGreater(min(told.values()), 300)

    def test_what_is_no_order(self):
        for chain in some_chains()[::5]:
            for order in no_orders(chain.places()):
                with self.subTest(moves=chain.told(), order=order):
                    self.assertRaises(NoSuch, keeps_order, chain, order)


class FirstOrder(unittest.TestCase):
    def test_by_hand(self):
        self.assertEqual(first_order(ONE_PLACE), [0])
        self.assertEqual(first_order(STAY), [0, 1])
        self.assertEqual(first_order(LADDER), [0, 1, 2])
        self.assertEqual(first_order(Chain(3, [(1, (2, 1, 1)), (1, (0, 2, 0))])), [0, 2, 1])

    def test_none(self):
        self.assertIsNone(first_order(FLIP))
        self.assertIsNone(first_order(TURNED))
        self.assertIsNone(first_order(Chain(6, [(1, (1, 2, 3, 4, 5, 0))])))

    def test_an_order_that_is_kept_need_not_be_the_least(self):
        chain = Chain(4, [(1, (0, 0, 3, 3))])
        self.assertTrue(keeps_order(chain, [3, 2, 1, 0]))
        self.assertTrue(keeps_order(chain, [1, 0, 2, 3]))
        self.assertEqual(first_order(chain), [0, 1, 2, 3])

    def test_orders_that_are_kept(self):
        other = 0
        for chain, order in ordered_chains():
            told = first_order(chain)
            self.assertTrue(keeps_order(chain, order))
            self.assertLessEqual(told, order)
            other += told != order
        self.assertGreater(other, 50)

    def test_against_all_orders(self):
        nones = 0
        for chain in some_chains() + [chain for chain, _ in ordered_chains()]:
            wanted = None
            for order in reversed(orders_of(chain)):
                if not breaking_of(chain, order):
                    wanted = order
            self.assertEqual(first_order(chain), wanted, chain.told())
            nones += wanted is None
        self.assertGreater(nones, 50)


class ByEnds(unittest.TestCase):
    def test_by_hand(self):
        self.assertEqual(by_ends(LADDER, [0, 1, 2], [1, 1]), (2, 2))
        self.assertEqual(by_ends(LADDER, [2, 1, 0], [0, 1, 1]), (1, 3))
        self.assertEqual(by_ends(LADDER, [0, 1, 2], [0, 1, 1, 1, 1]), (1, 3))

    def test_one_place(self):
        for numbers in ([], [0], [0, 0]):
            self.assertEqual(by_ends(ONE_PLACE, [0], numbers), (0, 0))

    def test_an_empty_row(self):
        self.assertIsNone(by_ends(LADDER, [0, 1, 2], []))
        self.assertIsNone(by_ends(STAY, [1, 0], []))

    def test_a_row_that_is_too_short(self):
        self.assertIsNone(by_ends(LADDER, [0, 1, 2], [1]))
        self.assertIsNone(by_ends(LADDER, [0, 1, 2], [1, 0]))
        self.assertIsNone(by_ends(STAY, [0, 1], [0] * 5000))

    def test_what_drawn_tells_by_each_order_and_the_other_way_round(self):
        told = {True: 0, False: 0}
        for chain, order in ordered_chains():
            for numbers in some_rows(chain):
                wanted = drawn(chain, numbers)
                for each in (order, order[::-1], first_order(chain)):
                    self.assertEqual(by_ends(chain, each, numbers), wanted, (chain.told(), each, numbers))
                told[wanted is None] += 1
        self.assertGreater(min(told.values()), 200)


class ByEndsRefuses(unittest.TestCase):
    def assert_not_ordered(self, chain, order, numbers, move):
        with self.assertRaises(NotOrdered) as caught:
            by_ends(chain, order, numbers)
        self.assertEqual(caught.exception.move, move)

    def test_what_is_no_order(self):
        for chain in [ONE_PLACE, FLIP, STAY, LADDER, TURNED]:
            for order in no_orders(chain.places()):
                for numbers in ([], [0], [0, 0, 0], [0] * 20 + [-1], [99]):
                    with self.subTest(moves=chain.told(), order=order, numbers=numbers):
                        self.assertRaises(NoSuch, by_ends, chain, order, numbers)

    def test_the_first_move_that_does_not_keep_it(self):
        for numbers in ([], [0], [2, 2], [-1], [4], [0, 0, 99]):
            self.assert_not_ordered(TURNED, [0, 1, 2], numbers, 1)
            self.assert_not_ordered(TURNED, [2, 1, 0], numbers, 1)
            self.assert_not_ordered(TURNED, [0, 2, 1], numbers, 1)
            self.assert_not_ordered(FLIP, [0, 1], numbers, 0)
            self.assert_not_ordered(LADDER, [1, 0, 2], numbers, 0)

    def test_each_move_may_be_the_first(self):
        for at in range(8):
            moves = [(1, (0, 1, 2))] * at + [(1, (2, 1, 0))] * (8 - at)
            self.assert_not_ordered(Chain(3, moves), [0, 1, 2], [7], at)

    def test_many_chains(self):
        refused = 0
        for chain in some_chains():
            for order in orders_of(chain)[:4]:
                breaking = breaking_of(chain, order)
                if breaking:
                    refused += 1
                    for numbers in ([], [0], [0, len(chain.told())], [-1]):
                        self.assert_not_ordered(chain, order, numbers, breaking[0])
        self.assertGreater(refused, 500)

    def test_a_number_that_is_no_move(self):
        kept = [(ONE_PLACE, [0]), (STAY, [0, 1]), (STAY, [1, 0]), (LADDER, [0, 1, 2]), (LADDER, [2, 1, 0])]
        for chain, order in kept:
            moves = len(chain.told())
            for number in (-1, -moves, moves, moves + 1, 1000):
                for begins in range(moves):
                    for numbers in (
                        [number], [number, 0], [0, number], [0, number, 0], [number] * 2, [begins, number],
                        [begins] * 9 + [number], [begins] * 500 + [number], [begins] * 9 + [number, 0],
                    ):
                        self.assertRaises(NoSuch, by_ends, chain, order, numbers)


if __name__ == "__main__":
    unittest.main()
