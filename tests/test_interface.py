"""The interface: names, arguments, and the files in which they are defined."""

import inspect
import unittest

from longago import chains, walks

FUNCTIONS = {
    chains: {"chances": ["chain"], "closed": ["chain"], "own": ["chain"]},
    walks: {
        "walked": ["chain", "begin", "numbers"],
        "together": ["chain", "numbers"],
        "drawn": ["chain", "numbers"],
        "tries": ["chain", "numbers"],
    },
}


class Interface(unittest.TestCase):
    def test_each_function_has_its_arguments_and_its_file(self):
        for module, functions in FUNCTIONS.items():
            for name, arguments in functions.items():
                with self.subTest(name):
                    function = getattr(module, name)
                    self.assertTrue(inspect.isfunction(function))
                    self.assertEqual(function.__module__, module.__name__)
                    self.assertEqual(list(inspect.signature(function).parameters), arguments)

    def test_chain_has_its_arguments_and_its_file(self):
        self.assertEqual(chains.Chain.__module__, "longago.chains")
        self.assertEqual(list(inspect.signature(chains.Chain).parameters), ["many", "moves"])

    def test_the_methods_stand_in_chain_itself(self):
        for name in ("places", "told"):
            method = vars(chains.Chain)[name]
            self.assertEqual(list(inspect.signature(method).parameters), ["self"])

    def test_arguments_may_be_given_by_name(self):
        chain = chains.Chain(many=2, moves=[(1, (1, 1))])
        self.assertEqual(chains.own(chain=chain), [(0, 1), (1, 1)])
        self.assertEqual(walks.walked(chain=chain, begin=0, numbers=[0]), [0, 1])
        self.assertEqual(walks.drawn(chain=chain, numbers=[0]), (1, 1))

    def test_the_kinds_of_values(self):
        chain = chains.Chain(2, [(1, (1, 0)), (1, (1, 1))])
        self.assertIs(type(chain.places()), int)
        for told in (
            chain.told(), chains.chances(chain), chains.chances(chain)[0], chains.closed(chain),
            chains.closed(chain)[0], chains.own(chain), walks.walked(chain, 0, [0]),
            walks.together(chain, [0]), walks.tries(chain, [0]), walks.tries(chain, [0])[0][1],
        ):
            self.assertIs(type(told), list)
        for told in (
            chain.told()[0], chain.told()[0][1], chains.chances(chain)[0][0], chains.own(chain)[0],
            walks.drawn(chain, [1]), walks.tries(chain, [0])[0],
        ):
            self.assertIs(type(told), tuple)


if __name__ == "__main__":
    unittest.main()
