"""Point [1]: what is handed in, what is kept of it, and the lists that are told."""

import ast
import unittest
from pathlib import Path

import longago
from helping import ordered_chains, some_chains, some_rows
from longago.chains import Chain, chances, closed, own
from longago.errors import BadChain, BadText, LongError, NeverOne, NoSuch, NotOne, NotOrdered
from longago.meetings import meeting
from longago.orders import by_ends, first_order, keeps_order
from longago.shares import far_mean, first_met, long_shares, shares
from longago.texts import read, written
from longago.walks import drawn, together, tries, walked

MOVES = [(3, (1, 2, 0)), (2, (0, 0, 1)), (1, (1, 1, 1))]
PARTED = [(1, (0, 1, 2, 1)), (2, (0, 2, 1, 0))]
ORDERED = [(1, (0, 0, 1)), (2, (1, 2, 2))]

OF_A_CHAIN = [
    lambda chain: chain.places(), lambda chain: chain.told(), chances, closed, own, meeting, first_order,
    lambda chain: shares(chain, 0), lambda chain: shares(chain, 3), long_shares, far_mean, first_met, written,
]
BY_A_ROW = [lambda chain, numbers: walked(chain, 0, numbers), together, drawn, tries]


def order_of(chain):
    """An order that all moves keep, where there is one, or else just an order."""
    return first_order(chain) or list(range(chain.places()))


def told_or_refused(call, *handed):
    """What is told, or the refusal's name and what it has."""
    try:
        return call(*handed)
    except LongError as error:
        return [type(error).__name__, vars(error)]


def answers(chain, numbers):
    """All that is told of a chain, in lists of its own."""
    order = order_of(chain)
    told = [told_or_refused(call, chain) for call in OF_A_CHAIN]
    told += [told_or_refused(call, chain, numbers) for call in BY_A_ROW]
    return told + [keeps_order(chain, order), told_or_refused(by_ends, chain, order, numbers)]


def spoil(told):
    """Change all lists that are told, also those within lists, tuples and a refusal's values."""
    if isinstance(told, dict):
        told = list(told.values())
    if isinstance(told, (list, tuple)):
        for each in told:
            spoil(each)
    if isinstance(told, list):
        told.clear()
        told.append("spoilt")


class HandedIn(unittest.TestCase):
    def test_the_moves_are_as_they_were(self):
        moves = list(MOVES)
        chain = Chain(3, moves)
        answers(chain, [0, 1, 2, 0, 0])
        self.assertEqual(moves, MOVES)

    def test_the_moves_are_as_they_were_behind_a_refusal(self):
        for bad in [(0, (0, 1, 2)), (1, (0, 1)), (1, (0, 1, 3))]:
            moves = MOVES + [bad]
            self.assertRaises(BadChain, Chain, 3, moves)
            self.assertEqual(moves, MOVES + [bad])

    def test_the_moves_may_be_changed_by_their_owner(self):
        for change in [
            lambda moves: moves.clear(),
            lambda moves: moves.append((5, (0, 0, 0))),
            lambda moves: moves.reverse(),
            lambda moves: moves.__setitem__(0, (99, (2, 2, 2))),
        ]:
            moves = list(MOVES)
            chain = Chain(3, moves)
            change(moves)
            self.assertNotEqual(moves, MOVES)
            self.assertEqual(chain.told(), MOVES)
            self.assertEqual(answers(chain, [0, 1, 0]), answers(Chain(3, MOVES), [0, 1, 0]))

    def test_a_row_is_as_it_was(self):
        for chain in some_chains():
            for numbers in some_rows(chain):
                before = list(numbers)
                for call in BY_A_ROW:
                    call(chain, numbers)
                self.assertEqual(numbers, before)

    def test_a_row_is_as_it_was_behind_a_refusal(self):
        chain = Chain(3, MOVES)
        for numbers in [[3], [0, -1, 0], [2, 2, 2, 3]]:
            before = list(numbers)
            for call in BY_A_ROW:
                self.assertRaises(NoSuch, call, chain, numbers)
            self.assertEqual(numbers, before)

    def test_a_row_may_be_changed_by_its_owner(self):
        chain = Chain(3, MOVES)
        numbers = [0, 1, 0, 1]
        before = answers(chain, numbers)
        numbers.reverse()
        self.assertEqual(answers(chain, [0, 1, 0, 1]), before)

    def test_a_row_and_an_order_are_as_they_were_behind_by_ends(self):
        for chain, order in ordered_chains():
            for numbers in some_rows(chain):
                row, kept = list(numbers), list(order)
                by_ends(chain, kept, row)
                self.assertTrue(keeps_order(chain, kept))
                self.assertEqual((row, kept), (numbers, order))

    def test_a_row_and_an_order_are_as_they_were_behind_a_refusal_by_ends(self):
        chain = Chain(3, ORDERED)
        for order, refusal in [([2, 1, 0], NoSuch), ([1, 0, 2], NotOrdered), ([2, 2, 0], NoSuch), ([2, 1], NoSuch)]:
            row, kept = [1, 0, 2, -1], list(order)
            self.assertRaises(refusal, by_ends, chain, kept, row)
            told_or_refused(keeps_order, chain, kept)
            self.assertEqual((row, kept), ([1, 0, 2, -1], order))

    def test_an_order_may_be_changed_by_its_owner(self):
        chain = Chain(3, ORDERED)
        order = [2, 1, 0]
        self.assertEqual(by_ends(chain, order, [1, 1]), (2, 2))
        order.reverse()
        self.assertEqual(by_ends(chain, order, [1, 1]), (2, 2))
        order.append(0)
        self.assertRaises(NoSuch, by_ends, chain, order, [1, 1])
        self.assertEqual(by_ends(chain, [2, 1, 0], [1, 1]), (2, 2))


class Told(unittest.TestCase):
    def test_lists_that_are_told_may_be_changed(self):
        for moves in (MOVES, PARTED, ORDERED, [(1, (0,))]):
            many = len(moves[0][1])
            for numbers in ([], [0], [0, 0, 0], [0] * 8):
                chain = Chain(many, moves)
                spoil(answers(chain, numbers))
                self.assertEqual(answers(chain, numbers), answers(Chain(many, moves), numbers))

    def test_each_list_that_is_told_may_be_changed(self):
        rows = ([], [0, 1, 0, 0])
        by_rows = [lambda chain, by=by, row=row: by(chain, row) for by in BY_A_ROW for row in rows]
        for moves in (MOVES, PARTED, ORDERED):
            many = len(moves[0][1])
            chain = Chain(many, moves)
            for call in OF_A_CHAIN + by_rows:
                wanted = told_or_refused(call, Chain(many, moves))
                spoil(told_or_refused(call, chain))
                self.assertEqual(told_or_refused(call, chain), wanted)

    def test_the_row_and_the_pairs_of_meeting_may_be_changed(self):
        chain = Chain(3, ORDERED)
        meeting(chain)[1].append(7)
        self.assertEqual(meeting(chain), ("row", [0, 0]))
        chain = Chain(4, PARTED)
        wanted = list(meeting(chain)[1])
        meeting(chain)[1].clear()
        self.assertEqual(meeting(chain), ("apart", wanted))
        alone = Chain(1, [(1, (0,))])
        meeting(alone)[1].append(0)
        self.assertEqual(meeting(alone), ("row", []))

    def test_the_list_in_the_tuple_of_shares_may_be_changed(self):
        chain = Chain(3, ORDERED)
        for far in (0, 2, 20):
            wanted = shares(Chain(3, ORDERED), far)
            shares(chain, far)[0].clear()
            self.assertEqual(shares(chain, far), wanted)

    def test_the_groups_of_not_one_may_be_changed(self):
        chain = Chain(4, PARTED + [(1, (0, 1, 2, 3))])
        for _ in range(3):
            with self.assertRaises(NotOne) as caught:
                own(chain)
            self.assertEqual(caught.exception.groups, [[0], [1, 2]])
            spoil(caught.exception.groups)
        self.assertEqual(closed(chain), [[0], [1, 2]])

    def test_a_row_that_is_told_of_is_not_the_one_handed_in(self):
        chain = Chain(1, [(1, (0,))])
        numbers = [0]
        for told in (walked(chain, 0, numbers), together(chain, numbers), tries(chain, numbers)):
            self.assertIsNot(told, numbers)


class Alone(unittest.TestCase):
    def test_the_same_answers_each_time(self):
        for chain in some_chains()[::3]:
            for numbers in some_rows(chain)[::4]:
                self.assertEqual(answers(chain, numbers), answers(chain, numbers))

    def test_two_chains_by_turns(self):
        """Each call is done of one chain and then of the other, and tells what it tells of a chain asked alone."""
        chains = some_chains()
        for one, other in list(zip(chains, chains[1:] + chains[:1]))[::5]:
            for call in OF_A_CHAIN + [lambda chain, by=by: by(chain, [0, 0, 0]) for by in BY_A_ROW]:
                alone = [told_or_refused(call, Chain(chain.places(), chain.told())) for chain in (one, other)]
                by_turns = [told_or_refused(call, chain) for chain in (one, other, one, other)]
                self.assertEqual(by_turns, alone + alone)

    def test_a_text_that_is_read_leaves_other_chains_as_they_are(self):
        one, other = read("places 2\nmove 1: 0 0"), read("places 2\nmove 2: 1 1\nmove 3: 1 0")
        self.assertEqual(one.told(), [(1, (0, 0))])
        self.assertEqual(other.told(), [(2, (1, 1)), (3, (1, 0))])
        self.assertRaises(BadText, read, "places 2\nmove 2: 1 1\nmove")
        self.assertEqual(written(one), "places 2\nmove 1: 0 0")

    def test_a_refusal_changes_nothing(self):
        chain = Chain(3, MOVES)
        before = answers(chain, [0, 1])
        for call in (together, drawn, tries):
            self.assertRaises(LongError, call, chain, [0, 3])
        self.assertRaises(NotOrdered, by_ends, chain, [0, 1, 2], [0])
        self.assertRaises(NoSuch, shares, chain, 21)
        self.assertEqual(answers(chain, [0, 1]), before)
        apart = Chain(4, PARTED)
        before = answers(apart, [0, 1])
        for call in (long_shares, far_mean, first_met):
            self.assertRaises(NeverOne, call, apart)
        self.assertEqual(answers(apart, [0, 1]), before)

    def test_no_clock_no_chance_and_no_files(self):
        """Nothing is imported but the package itself and whole numbers' reckoning."""
        for path in Path(longago.__file__).parent.rglob("*.py"):
            for node in ast.walk(ast.parse(path.read_text())):
                self.assertNotIsInstance(node, ast.Import)
                if isinstance(node, ast.ImportFrom):
                    self.assertIn(node.module.split(".")[0], ("longago", "math", "heapq", "itertools"))
                if isinstance(node, ast.Name):
                    self.assertNotIn(node.id, ("open", "input", "print", "eval", "exec", "__import__"))


if __name__ == "__main__":
    unittest.main()
