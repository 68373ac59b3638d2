"""The interface: names, arguments, and the files in which they are defined."""

import inspect
import unittest

from longago import chains, meetings, orders, shares, texts, walks

FUNCTIONS = {
    chains: {"chances": ["chain"], "closed": ["chain"], "own": ["chain"]},
    walks: {
        "walked": ["chain", "begin", "numbers"],
        "together": ["chain", "numbers"],
        "drawn": ["chain", "numbers"],
        "tries": ["chain", "numbers"],
    },
    meetings: {"meeting": ["chain"]},
    orders: {
        "keeps_order": ["chain", "order"],
        "first_order": ["chain"],
        "by_ends": ["chain", "order", "numbers"],
    },
    shares: {
        "shares": ["chain", "far"],
        "long_shares": ["chain"],
        "first_met": ["chain"],
        "far_mean": ["chain"],
    },
    texts: {"written": ["chain"], "read": ["text"]},
}


class Interface(unittest.TestCase):
    def test_each_function_has_its_arguments_and_its_file(self):
        for module, functions in FUNCTIONS.items():
            for name, arguments in functions.items():
                with self.subTest(name):
                    function = getattr(module, name)
                    self.assertTrue(inspect.isfunction(function))
                    self.assertEqual(function.__module__, module.__name__)
                    self.assertEqual(list(inspect.signature(function).parameters), arguments)

    def test_chain_has_its_arguments_and_its_file(self):
        self.assertEqual(chains.Chain.__module__, "longago.chains")
        self.assertEqual(list(inspect.signature(chains.Chain).parameters), ["many", "moves"])

    def test_the_methods_stand_in_chain_itself(self):
        for name in ("places", "told"):
            method = vars(chains.Chain)[name]
            self.assertEqual(list(inspect.signature(method).parameters), ["self"])

    def test_arguments_may_be_given_by_name(self):
        chain = chains.Chain(many=2, moves=[(1, (1, 1))])
        self.assertEqual(chains.own(chain=chain), [(0, 1), (1, 1)])
        self.assertEqual(walks.walked(chain=chain, begin=0, numbers=[0]), [0, 1])
        self.assertEqual(walks.drawn(chain=chain, numbers=[0]), (1, 1))
        self.assertEqual(meetings.meeting(chain=chain), ("row", [0]))
        self.assertTrue(orders.keeps_order(chain=chain, order=[1, 0]))
        self.assertEqual(orders.by_ends(chain=chain, order=[1, 0], numbers=[0]), (1, 1))
        self.assertEqual(shares.shares(chain=chain, far=0), ([(0, 1), (0, 1)], (1, 1)))
        self.assertEqual(texts.written(chain=texts.read(text="places 1\nmove 1: 0")), "places 1\nmove 1: 0")

    def test_the_kinds_of_values(self):
        chain = chains.Chain(2, [(1, (1, 0)), (1, (1, 1))])
        kept = chains.Chain(2, [(1, (0, 0)), (1, (0, 1))])
        self.assertIs(type(chain.places()), int)
        for told in (
            chain.told(), chains.chances(chain), chains.chances(chain)[0], chains.closed(chain),
            chains.closed(chain)[0], chains.own(chain), walks.walked(chain, 0, [0]),
            walks.together(chain, [0]), walks.tries(chain, [0]), walks.tries(chain, [0])[0][1],
            meetings.meeting(chain)[1], orders.first_order(kept), shares.shares(chain, 1)[0],
            shares.long_shares(chain), shares.first_met(chain),
        ):
            self.assertIs(type(told), list)
        for told in (
            chain.told()[0], chain.told()[0][1], chains.chances(chain)[0][0], chains.own(chain)[0],
            walks.drawn(chain, [1]), walks.tries(chain, [0])[0], meetings.meeting(chain),
            orders.by_ends(kept, [0, 1], [0]), shares.shares(chain, 1), shares.shares(chain, 1)[0][0],
            shares.shares(chain, 1)[1], shares.long_shares(chain)[0], shares.first_met(chain)[0],
            shares.far_mean(chain), texts.read("places 1\nmove 1: 0").told()[0],
        ):
            self.assertIs(type(told), tuple)
        self.assertIs(type(meetings.meeting(chains.Chain(2, [(1, (1, 0))]))[1][0]), tuple)
        self.assertIs(type(meetings.meeting(chain)[0]), str)
        self.assertIs(type(texts.written(chain)), str)
        self.assertIs(type(texts.read("places 1\nmove 1: 0")), chains.Chain)
        self.assertIs(orders.keeps_order(kept, [0, 1]), True)
        self.assertIs(orders.keeps_order(chain, [0, 1]), False)


if __name__ == "__main__":
    unittest.main()
