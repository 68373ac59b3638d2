"""Points [7] to [10]: rows of numbers, walks, draws and tries."""

import unittest

from helping import FLIP, LADDER, ONE_PLACE, STAY, end_of, ends_back, some_chains, some_rows
from longago.chains import Chain
from longago.errors import NoSuch
from longago.walks import drawn, together, tries, walked

ALL_TO_ONE = Chain(3, [(1, (2, 2, 2)), (1, (0, 0, 0)), (1, (0, 1, 2))])


def at_each_place(number, begins):
    """Rows with the number at the first, a middle and the last place, and far behind."""
    rows = [[number], [number, 0], [0, number], [0, number, 0], [number, number]]
    return rows + [[begins] + [0] * 9 + [number], [begins] * 500 + [number], [begins] + [number]]


class NumbersThatAreNone(unittest.TestCase):
    def assert_refused(self, chain, numbers):
        for begin in range(chain.places()):
            self.assertRaises(NoSuch, walked, chain, begin, numbers)
        self.assertRaises(NoSuch, together, chain, numbers)
        self.assertRaises(NoSuch, drawn, chain, numbers)
        self.assertRaises(NoSuch, tries, chain, numbers)

    def test_below_nought_and_too_great(self):
        for chain in [ONE_PLACE, FLIP, LADDER, ALL_TO_ONE]:
            moves = len(chain.told())
            for number in (-1, -moves, moves, moves + 1, 1000):
                for begins in range(moves):
                    for numbers in at_each_place(number, begins):
                        with self.subTest(moves=chain.told(), numbers=numbers):
                            self.assert_refused(chain, numbers)

    def test_the_last_of_eight_moves_is_one(self):
        chain = Chain(2, [(1, (0, 1))] * 7 + [(1, (1, 1))])
        self.assertEqual(together(chain, [7]), [1, 1])
        self.assert_refused(chain, [7, 8])

    def test_a_number_that_is_none_where_the_place_is_none(self):
        self.assertRaises(NoSuch, walked, FLIP, 2, [1])


class PlacesThatAreNone(unittest.TestCase):
    def test_below_nought_and_too_great(self):
        for chain in some_chains()[:60]:
            many = chain.places()
            for begin in (-1, -many, many, many + 1, 1000):
                for numbers in ([], [0], [0] * 50):
                    self.assertRaises(NoSuch, walked, chain, begin, numbers)


class Walked(unittest.TestCase):
    def test_a_walk_by_hand(self):
        self.assertEqual(walked(LADDER, 0, [1, 1, 1, 0, 0, 0, 0, 1]), [0, 1, 2, 2, 1, 0, 0, 0, 1])

    def test_an_empty_row(self):
        for begin in range(3):
            self.assertEqual(walked(LADDER, begin, []), [begin])

    def test_a_long_row(self):
        places = walked(FLIP, 0, [0] * 20001)
        self.assertEqual(places, [0, 1] * 10001)

    def test_many_chains(self):
        for chain in some_chains():
            for numbers in some_rows(chain):
                for begin in range(chain.places()):
                    places = walked(chain, begin, numbers)
                    self.assertEqual(len(places), len(numbers) + 1)
                    self.assertEqual(places[0], begin)
                    for at, number in enumerate(numbers):
                        self.assertEqual(places[at + 1], chain.told()[number][1][places[at]])


class Together(unittest.TestCase):
    def test_by_hand(self):
        self.assertEqual(together(LADDER, [1]), [1, 2, 2])
        self.assertEqual(together(LADDER, [1, 0]), [0, 1, 1])
        self.assertEqual(together(LADDER, [0, 1]), [1, 1, 2])

    def test_an_empty_row(self):
        self.assertEqual(together(LADDER, []), [0, 1, 2])
        self.assertEqual(together(ONE_PLACE, []), [0])

    def test_a_long_row(self):
        self.assertEqual(together(FLIP, [0] * 20001), [1, 0])

    def test_many_chains(self):
        for chain in some_chains():
            for numbers in some_rows(chain):
                ends = [end_of(chain, place, numbers) for place in range(chain.places())]
                self.assertEqual(together(chain, numbers), ends)


class Drawn(unittest.TestCase):
    def test_by_hand(self):
        self.assertEqual(drawn(LADDER, [1, 1]), (2, 2))
        self.assertEqual(drawn(LADDER, [0, 0]), (0, 2))
        # The steps are 1, 1 and then 0, as the first number is that of the last step.
        self.assertEqual(drawn(LADDER, [0, 1, 1]), (1, 3))
        self.assertEqual(drawn(LADDER, [1, 0, 1, 0, 0]), (1, 5))

    def test_the_place_is_where_all_are_now_not_where_they_are_first_one(self):
        chain = Chain(3, [(1, (2, 2, 2)), (1, (0, 0, 1))])
        self.assertEqual(drawn(chain, [0, 1, 1]), (2, 1))
        self.assertEqual(drawn(chain, [1, 0]), (1, 2))
        self.assertEqual(drawn(chain, [1, 1, 0]), (0, 2))

    def test_one_place_is_drawn_from_nought_on(self):
        for numbers in ([], [0], [0, 0, 0]):
            self.assertEqual(drawn(ONE_PLACE, numbers), (0, 0))

    def test_two_places_are_not_drawn_by_an_empty_row(self):
        self.assertIsNone(drawn(FLIP, []))
        self.assertIsNone(drawn(ALL_TO_ONE, []))

    def test_a_row_that_is_too_short(self):
        self.assertIsNone(drawn(LADDER, [1]))
        self.assertIsNone(drawn(LADDER, [1, 0]))
        self.assertIsNone(drawn(FLIP, [0] * 1000))
        self.assertIsNone(drawn(STAY, [0] * 1000))
        self.assertIsNone(drawn(ALL_TO_ONE, [2] * 1000))

    def test_far_back(self):
        self.assertEqual(drawn(ALL_TO_ONE, [2] * 5000 + [0]), (2, 5001))

    def test_many_chains(self):
        told = {True: 0, False: 0}
        for chain in some_chains():
            for numbers in some_rows(chain):
                wanted = None
                for far in reversed(range(len(numbers) + 1)):
                    ends = ends_back(chain, numbers, far)
                    if len(ends) == 1:
                        wanted = ends[0], far
                self.assertEqual(drawn(chain, numbers), wanted, (chain.told(), numbers))
                told[wanted is None] += 1
        self.assertGreater(min(told.values()), 500)

    def test_more_numbers_leave_it_as_it_is(self):
        for chain in some_chains():
            for numbers in some_rows(chain):
                told = drawn(chain, numbers)
                if told is not None:
                    self.assertIs(type(told), tuple)
                    for number in range(len(chain.told())):
                        self.assertEqual(drawn(chain, numbers + [number]), told)
                        self.assertEqual(drawn(chain, numbers + [number] * 7), told)
                    self.assertEqual(drawn(chain, numbers[:told[1]]), told)
                    if told[1]:
                        self.assertIsNone(drawn(chain, numbers[:told[1] - 1]))


class Tries(unittest.TestCase):
    def test_rows_of_nought_to_nine_numbers(self):
        fars = [[], [1], [1, 2], [1, 2], [1, 2, 4], [1, 2, 4], [1, 2, 4], [1, 2, 4], [1, 2, 4, 8], [1, 2, 4, 8]]
        for length, wanted in enumerate(fars):
            self.assertEqual(tries(FLIP, [0] * length), [(far, [0, 1]) for far in wanted])

    def test_by_hand(self):
        # Of the steps 0, 1 and 1, in their order, the last one alone is tried, then the last two.
        self.assertEqual(tries(LADDER, [1, 0, 1]), [(1, [1, 2]), (2, [1, 2])])
        self.assertEqual(tries(LADDER, [0, 1, 1]), [(1, [0, 1]), (2, [0, 1])])
        self.assertEqual(tries(LADDER, [0, 1, 1, 0]), [(1, [0, 1]), (2, [0, 1]), (4, [1])])

    def test_it_ends_with_the_first_by_which_all_are_one(self):
        self.assertEqual(tries(LADDER, [1, 1] + [0] * 20), [(1, [1, 2]), (2, [2])])
        self.assertEqual(tries(ALL_TO_ONE, [1] + [0] * 20), [(1, [0])])
        apart = [(far, [0, 1, 2]) for far in (1, 2, 4)]
        self.assertEqual(tries(ALL_TO_ONE, [2] * 4 + [0] * 20), apart + [(8, [2])])

    def test_one_place(self):
        self.assertEqual(tries(ONE_PLACE, []), [])
        for length in range(1, 10):
            self.assertEqual(tries(ONE_PLACE, [0] * length), [(1, [0])])

    def test_a_long_row(self):
        told = tries(FLIP, [0] * 5000)
        self.assertEqual(told, [(2 ** power, [0, 1]) for power in range(13)])

    def test_many_chains(self):
        for chain in some_chains():
            for numbers in some_rows(chain):
                wanted = []
                for far in (1, 2, 4, 8, 16, 32, 64):
                    if far <= len(numbers) and all(len(ends) > 1 for _, ends in wanted):
                        wanted.append((far, ends_back(chain, numbers, far)))
                self.assertEqual(tries(chain, numbers), wanted, (chain.told(), numbers))
                self.assertTrue(all(type(each) is tuple for each in wanted))


if __name__ == "__main__":
    unittest.main()
