"""Point [1]: what is handed in, what is kept of it, and the lists that are told."""

import ast
import unittest
from pathlib import Path

import longago
from helping import some_chains, some_rows
from longago.chains import Chain, chances, closed, own
from longago.errors import BadChain, LongError, NoSuch, NotOne
from longago.walks import drawn, together, tries, walked

MOVES = [(3, (1, 2, 0)), (2, (0, 0, 1)), (1, (1, 1, 1))]
PARTED = [(1, (0, 1, 2, 1)), (2, (0, 2, 1, 0))]


def answers(chain, numbers):
    """All that is told of a chain, in lists of its own."""
    told = [chain.places(), chain.told(), chances(chain), closed(chain)]
    try:
        told.append(own(chain))
    except NotOne as error:
        told.append(error.groups)
    told += [walked(chain, begin, numbers) for begin in range(chain.places())]
    return told + [together(chain, numbers), drawn(chain, numbers), tries(chain, numbers)]


def spoil(told):
    """Change a list and all lists in it."""
    for each in told:
        if isinstance(each, list):
            spoil(each)
        elif isinstance(each, tuple):
            spoil([part for part in each if isinstance(part, list)])
    told.clear()
    told.append("spoilt")


class HandedIn(unittest.TestCase):
    def test_the_moves_are_as_they_were(self):
        moves = list(MOVES)
        chain = Chain(3, moves)
        answers(chain, [0, 1, 2, 0, 0])
        self.assertEqual(moves, MOVES)

    def test_the_moves_are_as_they_were_behind_a_refusal(self):
        for bad in [(0, (0, 1, 2)), (1, (0, 1)), (1, (0, 1, 3))]:
            moves = MOVES + [bad]
            self.assertRaises(BadChain, Chain, 3, moves)
            self.assertEqual(moves, MOVES + [bad])

    def test_the_moves_may_be_changed_by_their_owner(self):
        for change in [
            lambda moves: moves.clear(),
            lambda moves: moves.append((5, (0, 0, 0))),
            lambda moves: moves.reverse(),
            lambda moves: moves.__setitem__(0, (99, (2, 2, 2))),
        ]:
            moves = list(MOVES)
            chain = Chain(3, moves)
            change(moves)
            self.assertNotEqual(moves, MOVES)
            self.assertEqual(chain.told(), MOVES)
            self.assertEqual(answers(chain, [0, 1, 0]), answers(Chain(3, MOVES), [0, 1, 0]))

    def test_a_row_is_as_it_was(self):
        for chain in some_chains():
            for numbers in some_rows(chain):
                before = list(numbers)
                answers(chain, numbers)
                self.assertEqual(numbers, before)

    def test_a_row_is_as_it_was_behind_a_refusal(self):
        chain = Chain(3, MOVES)
        for numbers in [[3], [0, -1, 0], [2, 2, 2, 3]]:
            before = list(numbers)
            for call in (together, drawn, tries):
                self.assertRaises(NoSuch, call, chain, numbers)
            self.assertRaises(NoSuch, walked, chain, 0, numbers)
            self.assertEqual(numbers, before)

    def test_a_row_may_be_changed_by_its_owner(self):
        chain = Chain(3, MOVES)
        numbers = [0, 1, 0, 1]
        before = answers(chain, numbers)
        numbers.reverse()
        self.assertEqual(answers(chain, [0, 1, 0, 1]), before)


class Told(unittest.TestCase):
    def test_lists_that_are_told_may_be_changed(self):
        for moves in (MOVES, PARTED):
            many = len(moves[0][1])
            for numbers in ([], [0], [1, 1, 0], [0] * 8):
                chain = Chain(many, moves)
                spoil(answers(chain, numbers))
                self.assertEqual(answers(chain, numbers), answers(Chain(many, moves), numbers))

    def test_each_list_that_is_told_may_be_changed(self):
        calls = [
            lambda chain: chain.told(), chances, closed, own,
            lambda chain: walked(chain, 1, [0, 1, 0]), lambda chain: together(chain, [0, 1, 0]),
            lambda chain: tries(chain, [0, 0, 0, 0]), lambda chain: walked(chain, 1, []),
            lambda chain: together(chain, []), lambda chain: tries(chain, []),
        ]
        chain = Chain(3, MOVES)
        for call in calls:
            wanted = call(Chain(3, MOVES))
            spoil(call(chain))
            self.assertEqual(call(chain), wanted)

    def test_the_groups_of_not_one_may_be_changed(self):
        chain = Chain(4, PARTED + [(1, (0, 1, 2, 3))])
        for _ in range(3):
            with self.assertRaises(NotOne) as caught:
                own(chain)
            self.assertEqual(caught.exception.groups, [[0], [1, 2]])
            spoil(caught.exception.groups)
        self.assertEqual(closed(chain), [[0], [1, 2]])

    def test_a_row_that_is_told_of_is_not_the_one_handed_in(self):
        chain = Chain(1, [(1, (0,))])
        numbers = [0]
        for told in (walked(chain, 0, numbers), together(chain, numbers), tries(chain, numbers)):
            self.assertIsNot(told, numbers)


class Alone(unittest.TestCase):
    def test_the_same_answers_each_time(self):
        for chain in some_chains():
            for numbers in some_rows(chain):
                self.assertEqual(answers(chain, numbers), answers(chain, numbers))

    def test_a_refusal_changes_nothing(self):
        chain = Chain(3, MOVES)
        before = answers(chain, [0, 1])
        for call in (together, drawn, tries):
            self.assertRaises(LongError, call, chain, [0, 3])
        self.assertEqual(answers(chain, [0, 1]), before)

    def test_no_clock_no_chance_and_no_files(self):
        """Nothing is imported but the package itself and whole numbers' reckoning."""
        for path in Path(longago.__file__).parent.rglob("*.py"):
            for node in ast.walk(ast.parse(path.read_text())):
                self.assertNotIsInstance(node, ast.Import)
                if isinstance(node, ast.ImportFrom):
                    self.assertIn(node.module.split(".")[0], ("longago", "math", "heapq", "itertools"))
                if isinstance(node, ast.Name):
                    self.assertNotIn(node.id, ("open", "input", "print", "eval", "exec", "__import__"))


if __name__ == "__main__":
    unittest.main()
