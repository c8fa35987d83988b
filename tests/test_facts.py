"""Facts: points [5] and [6]."""

import itertools
import unittest

from helpers import SOME_FACTS, DialCase, parts_under
from unseendials.errors import BadFact, BadLetter, MixedFact, TooLarge
from unseendials.facts import Facts

MANY_PAIRS = [(low, high) for low in "abcde" for high in "fghij"]


class TestMaking(DialCase):

    def test_pairs_stand_once_in_the_order_of_telling(self):
        facts = Facts(("g", "f"), ["1", "f"], ("g", "f"), ("f", "f"))
        self.assertEqual(list(facts), [("g", "f"), ("1", "f"), ("f", "f")])
        self.assertEqual(len(facts), 3)
        self.assertEqual([len(Facts()), list(Facts()), Facts().paired], [0, [], ""])

    def test_listed_is_the_same(self):
        for pairs in [[("f", "g"), ("1", "f")], (["f", "g"], ["1", "f"])]:
            facts = Facts.listed(pairs, paired="ba")
            self.assertEqual(list(facts), [("f", "g"), ("1", "f")])
            self.assertEqual(facts.paired, "ab")
        self.assertEqual(list(Facts.listed([])), [])
        self.tells(BadFact("f", "x"), Facts.listed, [("f", "x")])

    def test_paired_dials_stand_once_in_order(self):
        self.assertEqual(Facts(paired="tabat").paired, "abt")

    def test_what_is_handed_in_is_copied(self):
        pair = ["f", "g"]
        pairs = [pair]
        facts = Facts.listed(pairs)
        pair[0] = "h"
        pairs.append(["1", "k"])
        self.assertEqual(list(facts), [("f", "g")])
        rows = facts.dial_list()
        rows.append("h")
        facts.path("f", "g").append("h")
        self.assertEqual([facts.dial_list(), facts.path("f", "g")], [["f", "g"], ["f", "g"]])

    def test_signs_that_are_no_small_dial_letters(self):
        self.tells(BadLetter("A"), Facts, paired="bAx")
        self.tells(BadLetter("u"), Facts, ("x", "y"), paired="tu")
        self.tells(BadLetter("1"), Facts, paired="1")
        self.tells(BadLetter(" "), Facts, paired="a b")

    def test_parts_that_are_none(self):
        self.tells(BadFact("f", "u"), Facts, ("f", "g"), ("f", "u"), ("A", "f"))
        for part in ["", "A", "u", "ab", "2", "11"]:
            self.tells(BadFact(part, "f"), Facts, (part, "f"))
            self.tells(BadFact("1", part), Facts, ("1", part))

    def test_mixed_pairs(self):
        self.tells(MixedFact("f", "a"), Facts, ("1", "a"), ("f", "1"), ("f", "a"), ("a", "f"),
                   paired="a")
        self.tells(MixedFact("a", "f"), Facts, ("a", "f"), paired="a")
        self.assertEqual(len(Facts(("a", "b"), ("1", "a"), ("b", "1"), paired="ab")), 3)

    def test_which_error_comes_first(self):
        self.tells(BadFact("f", "x"), Facts, ("f", "a"), ("f", "x"), paired="a")
        self.tells(MixedFact("a", "f"), Facts, *MANY_PAIRS, paired="a")

    def test_twenty_four_pairs_and_twenty_five(self):
        self.assertEqual(Facts.MOST, 24)
        self.assertEqual(len(Facts(*MANY_PAIRS[:24])), 24)
        self.assertEqual(len(Facts(*MANY_PAIRS[:24], *MANY_PAIRS[:24])), 24)
        self.tells(TooLarge("facts"), Facts, *MANY_PAIRS)


class TestUnder(DialCase):

    def test_a_row_of_told_pairs(self):
        facts = Facts(("f", "g"), ("g", "1"), ("1", "h"), ("k", "g"))
        self.assertEqual(facts.path("f", "h"), ["f", "g", "1", "h"])
        self.assertEqual([facts.under("f", "h"), facts.under("h", "f")], [True, False])
        self.assertIsNone(facts.path("h", "f"))
        self.assertIsNone(facts.path("f", "k"))

    def test_each_part_is_under_itself(self):
        for part in ["1", "f", "t"]:
            self.assertIs(Facts().under(part, part), True)
            self.assertEqual(Facts(("f", "1"), ("1", "f")).path(part, part), [part])
        self.assertEqual(Facts(("f", "f")).path("f", "f"), ["f"])

    def test_paths_are_rows_of_told_pairs(self):
        for facts in SOME_FACTS + [Facts(("f", "g"), ("g", "h"), ("h", "f"), ("h", "1"))]:
            for low, high in itertools.product("1abfgh", repeat=2):
                row = facts.path(low, high)
                self.assertEqual(row is not None, high in parts_under(facts, low))
                self.assertEqual(row is not None, facts.under(low, high))
                if row is not None:
                    self.assertEqual([row[0], row[-1]], [low, high])
                    self.assertTrue(all(pair in facts for pair in zip(row, row[1:])))

    def test_letters_that_are_no_parts(self):
        facts = Facts(paired="a")
        for call in [facts.under, facts.path]:
            self.tells(BadLetter("A"), call, "A", "x")
            self.tells(BadLetter("x"), call, "f", "x")
            self.tells(BadLetter(""), call, "", "")

    def test_paired_letters(self):
        facts = Facts(("f", "1"), paired="at")
        told = [letter for letter in ["a", "A", "t", "T", "b", "B", "f", "F", "1", "", "aA", "x"]
                if facts.has_pair(letter)]
        self.assertEqual(told, ["a", "A", "t", "T"])
        self.assertIs(facts.has_pair("a"), True)
        self.assertIs(facts.has_pair("\u212a"), False)
        self.assertIs(Facts(paired="k").has_pair("\u212a"), False)

    def test_dials(self):
        facts = Facts(("k", "1"), ("c", "c"), ("1", "1"), paired="ba")
        self.assertEqual(facts.dial_list(), ["a", "b", "c", "k"])

    def test_told_pairs_are_in(self):
        facts = Facts(("f", "g"), ["g", "h"])
        self.assertTrue(("f", "g") in facts and ("g", "h") in facts)
        for worth in [("f", "h"), ("g", "f"), ["f", "g"], "fg", None, 3, ("f", ["g"]), ("f",)]:
            self.assertFalse(worth in facts)


class TestFactsTogether(DialCase):

    def test_within(self):
        chain = Facts(("f", "g"), ("g", "h"))
        self.assertTrue(Facts(("f", "h")).within(chain))
        self.assertFalse(chain.within(Facts(("f", "h"))))
        self.assertTrue(Facts(("k", "k")).within(Facts()))
        self.assertFalse(Facts().within(Facts(paired="a")))
        self.assertFalse(Facts(paired="a").within(Facts()))

    def test_equal(self):
        chain = Facts(("f", "g"), ("g", "h"))
        self.assertTrue(chain == Facts(("g", "h"), ("f", "h"), ("f", "g")))
        self.assertFalse(chain != Facts(("g", "h"), ("f", "h"), ("f", "g")))
        self.assertTrue(chain != Facts(("f", "g")))
        self.assertFalse(chain == Facts(("f", "g")))
        self.assertTrue(Facts(paired="ab") == Facts(paired="ba"))
        self.assertTrue(Facts(paired="a") != Facts())
        self.assertTrue(Facts(("f", "f")) == Facts())
        self.assertTrue(Facts() != "")
        self.assertFalse(Facts() == None)  # noqa: E711

    def test_both_facts(self):
        both = Facts(("f", "g"), ("1", "f"), paired="b") | Facts(("f", "h"), ("f", "g"), paired="a")
        self.assertEqual(list(both), [("f", "g"), ("1", "f"), ("f", "h")])
        self.assertEqual(both.paired, "ab")
        self.assertTrue(Facts() | Facts() == Facts())

    def test_both_facts_can_be_too_much(self):
        self.tells(MixedFact("a", "b"), lambda: Facts(("a", "b")) | Facts(paired="a"))
        self.tells(MixedFact("a", "b"), lambda: Facts(paired="a") | Facts(("a", "b"), ("b", "a")))
        one, other = Facts(*MANY_PAIRS[:20]), Facts(*MANY_PAIRS[5:])
        self.tells(TooLarge("facts"), lambda: one | other)
        self.assertEqual(len(one), 20)
        self.tells(MixedFact("a", "f"), lambda: one | (Facts(paired="a") | Facts(*MANY_PAIRS[20:])))

    def test_mirrored_and_turned(self):
        facts = Facts(("f", "g"), ("a", "b"), ("1", "1"), ("1", "a"), ("f", "1"), ("f", "f"),
                      paired="ab")
        self.assertEqual(list(facts.mirrored()), [("f", "g"), ("b", "a"), ("1", "1"), ("a", "1"),
                                                  ("f", "1"), ("f", "f")])
        self.assertEqual(list(facts.turned()), [("g", "f"), ("a", "b"), ("1", "1"), ("1", "a"),
                                                ("1", "f"), ("f", "f")])
        self.assertEqual([facts.mirrored().paired, facts.turned().paired], ["ab", "ab"])
        for known in SOME_FACTS:
            self.assertEqual(list(known.mirrored().mirrored()), list(known))
            self.assertEqual(list(known.turned().turned()), list(known))
            self.assertTrue(known.turned().mirrored() == known.mirrored().turned())


if __name__ == "__main__":
    unittest.main()
