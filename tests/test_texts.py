"""Point [18]: chains written as texts, and read from them."""

import unittest

from helping import LADDER, ONE_PLACE, SPLIT, ordered_chains, some_chains
from longago.chains import Chain
from longago.errors import BadChain, BadText
from longago.texts import read, written

GOOD = "places 2\nmove 1: 0 1\nmove 10: 1 0"


class Written(unittest.TestCase):
    def test_sign_by_sign(self):
        self.assertEqual(written(ONE_PLACE), "places 1\nmove 1: 0")
        self.assertEqual(written(LADDER), "places 3\nmove 1: 0 0 1\nmove 2: 1 2 2")
        self.assertEqual(
            written(SPLIT),
            "places 6\nmove 3: 1 4 3 2 1 5\nmove 1: 2 1 2 3 4 5\nmove 99: 5 4 2 2 1 5",
        )

    def test_eight_moves_alike(self):
        self.assertEqual(written(Chain(1, [(10, (0,))] * 8)), "places 1" + "\nmove 10: 0" * 8)


class ReadAgain(unittest.TestCase):
    def assert_same(self, text, many, moves):
        chain = read(text)
        self.assertIs(type(chain), Chain)
        self.assertEqual(chain.places(), many)
        self.assertEqual(chain.told(), moves)
        self.assertEqual(written(chain), text)

    def test_by_hand(self):
        self.assert_same(GOOD, 2, [(1, (0, 1)), (10, (1, 0))])
        self.assert_same("places 1\nmove 99: 0", 1, [(99, (0,))])
        self.assert_same("places 6\nmove 9: 5 4 3 2 1 0", 6, [(9, (5, 4, 3, 2, 1, 0))])

    def test_each_weight(self):
        for weight in range(1, 100):
            self.assert_same(f"places 2\nmove {weight}: 1 1", 2, [(weight, (1, 1))])

    def test_one_to_eight_moves(self):
        for moves in range(1, 9):
            self.assert_same("places 2" + "\nmove 5: 1 1" * moves, 2, [(5, (1, 1))] * moves)

    def test_many_chains(self):
        for chain in some_chains() + [chain for chain, _ in ordered_chains()]:
            self.assert_same(written(chain), chain.places(), chain.told())


class BadTexts(unittest.TestCase):
    def assert_bad(self, text, row):
        with self.subTest(text):
            with self.assertRaises(BadText) as caught:
                read(text)
            self.assertEqual(caught.exception.row, row)

    def assert_bad_first(self, row):
        for rest in ("", "\nmove 1: 0 1", "\nmove 1: 0 1\n", "\nmove", "\n"):
            self.assert_bad(row + rest, 0)

    def assert_bad_move(self, row):
        self.assert_bad("places 2\n" + row, 1)
        self.assert_bad(GOOD + "\n" + row, 3)
        self.assert_bad("places 2\n" + row + "\nmove 1: 0 1", 1)
        self.assert_bad("places 2\nmove 1: 0 1\n" + row + "\nmove 1: 0 1", 2)
        self.assert_bad("places 2" + "\nmove 1: 0 1" * 11 + "\n" + row, 12)

    def assert_bad_number(self, word):
        """The word is no number, wherever one stands."""
        self.assert_bad_first("places " + word)
        self.assert_bad_move(f"move {word}: 0 1")
        self.assert_bad_move(f"move 1: {word} 1")
        self.assert_bad_move(f"move 1: 0 {word}")
        self.assert_bad_move(f"move 1: {word}")

    def test_an_empty_text(self):
        self.assert_bad("", 0)

    def test_empty_rows(self):
        self.assert_bad("\n", 0)
        self.assert_bad("\n" + GOOD, 0)
        self.assert_bad("places 2\n\nmove 1: 0 1", 1)
        self.assert_bad("places 2\nmove 1: 0 1\n\nmove 1: 0 1", 2)

    def test_a_line_feed_at_the_end(self):
        self.assert_bad("places 2\n", 1)
        self.assert_bad(GOOD + "\n", 3)
        self.assert_bad(GOOD + "\n\n", 3)

    def test_a_row_behind_the_last(self):
        self.assert_bad(GOOD + "\nend", 3)
        self.assert_bad(GOOD + "\nplaces 2", 3)
        self.assert_bad("places 2" + "\nmove 1: 0 1" * 8 + "\n ", 9)

    def test_a_first_row_that_is_not_so(self):
        for row in ["places", "place 2", "Places 2", "PLACES 2", "places2", "2", "places 2 2", "places two", "places:2",
                    "places: 2", "places 2:", "2 places", "move 1: 0 1", "places 2 move 1: 0 1", "x", "#", "places 2,"]:
            self.assert_bad_first(row)

    def test_a_move_that_is_not_so(self):
        for row in ["move", "move 1", "move 1:", "move 1: ", "move: 0 1", "move : 0 1", "move 1 0 1", "move 1 : 0 1",
                    "move 1:0 1", "move 1:: 0 1", "move :1 0 1", "move 1; 0 1", "Move 1: 0 1", "moves 1: 0 1",
                    "1: 0 1", "move1: 0 1", "move 1: 0, 1", "move 1: 0 1.", "move 1: 0:1", "move 1: 0: 1",
                    "move 0 1 1:", "move 1: : 0", "places 2", "move 1 1: 0 1", "move 1: move", "move 1: 0 1 # so",
                    "move 1.: 0 1"]:
            self.assert_bad_move(row)

    def test_blanks(self):
        for row in [" places 2", "places  2", "places 2 ", "  places 2", "places 2  "]:
            self.assert_bad_first(row)
        for row in [" move 1: 0 1", "move  1: 0 1", "move 1:  0 1", "move 1: 0  1", "move 1: 0 1 ", "move 1: 0 1  ",
                    " ", "  ", "move 1 : 0 1"]:
            self.assert_bad_move(row)

    def test_other_white_space(self):
        for sign in "\t\r\v\f\x1c\x1d\x1e\x85\xa0\u2003\u2028\u3000":
            for row in [f"places{sign}2", f"{sign}places 2", f"places 2{sign}", f"places {sign}2", f"places{sign} 2"]:
                self.assert_bad_first(row)
            for row in [f"move{sign}1: 0 1", f"move 1:{sign}0 1", f"move 1: 0{sign}1", f"move 1: 0 1{sign}",
                        f"{sign}move 1: 0 1", f"move 1: {sign}0 1", f"move 1: 0 {sign}1", sign]:
                self.assert_bad_move(row)
        self.assert_bad("places 2\r\nmove 1: 0 1", 0)
        self.assert_bad("places 2\rmove 1: 0 1", 0)
        self.assert_bad("places 2\nmove 1: 0 1\r\nmove 1: 0 1", 1)
        self.assert_bad("places 2\u2028move 1: 0 1", 0)

    def test_signs(self):
        for word in ["+1", "-1", "-0", "+0", "1+", "--1", "1_1", "_1", "1_", "0x1", "1.", ".1", "1e", "\"1\"", "'1'"]:
            self.assert_bad_number(word)

    def test_a_nought_ahead(self):
        for word in ["00", "01", "02", "09", "000", "001", "010"]:
            self.assert_bad_number(word)

    def test_three_figures_and_more(self):
        for word in ["100", "101", "999", "1000", "123456789012345678901234567890"]:
            self.assert_bad_number(word)

    def test_letters(self):
        for word in ["a", "O", "l", "1a", "a1", "one", "None", "True", "inf"]:
            self.assert_bad_number(word)

    def test_figures_of_other_scripts(self):
        for word in ["\u0661", "\u0967", "\uff11", "\u00b2", "\u00bd", "\u2460", "\u0661\u0662", "1\u0661", "\u06611",
                     "\u4e00", "\u2167", "\U0001d7ce"]:
            self.assert_bad_number(word)

    def test_the_first_of_several_bad_rows_counts(self):
        self.assert_bad("places x\nmove x", 0)
        self.assert_bad("places 2\nmove x\nmove y", 1)
        self.assert_bad("places 2\nmove 1: 0 1\n\n", 2)
        self.assert_bad("places 2\nmove 1: 0 1\nmove 1: 0 01\nmove 1:\n", 2)

    def test_a_bad_row_counts_ahead_of_what_is_no_chain(self):
        self.assert_bad("places 99\nmove 0: 9 9\nmove", 2)
        self.assert_bad("places 0\n", 1)
        self.assert_bad("places 2" + "\nmove 1: 0 1" * 9 + "\nmove 1:", 10)
        self.assert_bad("places 2\nmove 0: 0 1\nmove 100: 0 1", 2)


class NoChains(unittest.TestCase):
    def assert_no_chain(self, text):
        with self.subTest(text):
            self.assertRaises(BadChain, read, text)

    def test_no_moves(self):
        for many in range(7):
            self.assert_no_chain(f"places {many}")

    def test_nine_moves_and_more(self):
        self.assert_no_chain("places 2" + "\nmove 1: 0 1" * 9)
        self.assert_no_chain("places 2" + "\nmove 1: 0 1" * 200)

    def test_numbers_of_places(self):
        for many in (0, 7, 8, 9, 10, 11, 98, 99):
            self.assert_no_chain(f"places {many}\nmove 1: 0")
            self.assert_no_chain(f"places {many}\nmove 1: " + " ".join(["0"] * max(1, many)))

    def test_the_weight_nought(self):
        self.assert_no_chain("places 2\nmove 0: 0 1")
        self.assert_no_chain("places 2\nmove 1: 0 1\nmove 0: 0 1")

    def test_a_whither_that_is_too_short_or_too_long(self):
        self.assert_no_chain("places 2\nmove 1: 0")
        self.assert_no_chain("places 2\nmove 1: 0 1 1")
        self.assert_no_chain("places 2\nmove 1: 0 1\nmove 1: 0 1 1")
        self.assert_no_chain("places 6\nmove 1: 0 1 2 3 4")
        self.assert_no_chain("places 1\nmove 1:" + " 0" * 300)

    def test_a_place_that_is_not_there(self):
        for place in (2, 3, 9, 10, 99):
            self.assert_no_chain(f"places 2\nmove 1: {place} 1")
            self.assert_no_chain(f"places 2\nmove 1: 1 0\nmove 1: 0 {place}")


if __name__ == "__main__":
    unittest.main()
