"""Words: points [1] and [2]."""

import unittest

from helpers import DialCase
from unseendials.errors import BadLetter, BadWord
from unseendials.words import (dials_of, first_letter, heads, in_order, is_word, partner, point_of,
                               points_of, replace_dials, rest_of, tail_set, tails)

NO_WORDS = ["", "f", "xf", "xx", "fxg", "F", "1x", " x", "x ", "f x", "fx\n", "Ux", "Zx", "ux", "t",
            "f-x", "\u212ax", "\u00e4x", "X", "f" * 40 + "x", "f" * 41]


class TestWords(DialCase):

    def test_words_end_with_one_point(self):
        for word in ["x", "u", "z", "ax", "tx", "Ax", "Tz", "fgAx", "f" * 39 + "x"]:
            with self.subTest(word=word):
                self.assertIs(is_word(word), True)

    def test_other_texts_are_no_words(self):
        for text in NO_WORDS:
            with self.subTest(text=text):
                self.assertIs(is_word(text), False)

    def test_the_letters_beside_the_points(self):
        points = [letter for letter in "qrstuvwxyz{" if is_word(letter)]
        self.assertEqual(points, list("uvwxyz"))
        fronts = [chr(code) for code in range(256) if is_word(chr(code) + "x")]
        self.assertEqual("".join(fronts), "ABCDEFGHIJKLMNOPQRSTabcdefghijklmnopqrst")

    def test_forty_letters_and_forty_one(self):
        self.assertTrue(is_word("f" * 39 + "x"))
        self.assertFalse(is_word("f" * 40 + "x"))
        self.tells(BadWord("f" * 40 + "x"), tails, "f" * 40 + "x")

    def test_heads_and_tails(self):
        self.assertEqual(tails("fgx"), ["fgx", "gx", "x"])
        self.assertEqual(heads("fgx"), ["", "f", "fg"])
        self.assertEqual([heads("x"), tails("x")], [[""], ["x"]])
        for word in ["x", "fgx", "AbTz"]:
            joined = [head + tail for head, tail in zip(heads(word), tails(word))]
            self.assertEqual(joined, [word] * len(word))

    def test_parts_of_a_word(self):
        self.assertEqual([first_letter("fgx"), rest_of("fgx"), point_of("fgx")], ["f", "gx", "x"])
        self.assertEqual([first_letter("x"), rest_of("x"), point_of("x")], ["x", "", "x"])

    def test_parts_of_no_word(self):
        for call in [heads, tails, first_letter, rest_of, point_of]:
            for text in NO_WORDS:
                with self.subTest(call=call.__name__, text=text):
                    self.tells(BadWord(text), call, text)

    def test_word_order(self):
        words = ["aax", "z", "x", "tx", "ax", "Tx", "Ax", "u", "Aax", "aAx"]
        ordered = ["u", "x", "z", "Ax", "Tx", "ax", "tx", "Aax", "aAx", "aax"]
        self.assertEqual(in_order(words), ordered)
        self.assertEqual(in_order(tuple(words + words)), ordered)

    def test_sets_of_words(self):
        self.assertEqual(tail_set(["fgx", "gx", "fy"]), ["x", "y", "fy", "gx", "fgx"])
        self.assertEqual(dials_of(("fAx", "Tty", "x")), ["a", "f", "t"])
        self.assertEqual(points_of(["fz", "z", "u"]), ["u", "z"])

    def test_no_words_at_all(self):
        for call in [in_order, tail_set, dials_of, points_of]:
            self.assertEqual([call([]), call(())], [[], []])

    def test_the_first_text_that_is_no_word(self):
        for call in [in_order, tail_set, dials_of, points_of]:
            self.tells(BadWord("zz"), call, ["fx", "zz", "q"])
            self.tells(BadWord(""), call, ("", "zz"))

    def test_what_is_handed_in_stays(self):
        words = ["fx", "x", "fx"]
        in_order(words).append("y")
        tail_set(words).append("y")
        self.assertEqual(words, ["fx", "x", "fx"])

    def test_partners(self):
        self.assertEqual([partner("a"), partner("t"), partner("A"), partner("T")], list("ATat"))
        for text in ["u", "z", "U", "1", "", "ab", "aA", "AB", "\u212a"]:
            with self.subTest(text=text):
                self.tells(BadLetter(text), partner, text)


class TestReplacing(DialCase):

    def test_all_at_once(self):
        self.assertEqual(replace_dials("fgx", {"f": "gg", "g": "F"}), "ggFx")
        self.assertEqual(replace_dials("fgfx", {"f": ""}), "gx")
        self.assertEqual(replace_dials("fFx", {"f": "g"}), "gFx")
        self.assertEqual(replace_dials("fx", {}), "fx")
        self.assertEqual(replace_dials("x", {"f": "g"}), "x")

    def test_the_first_key_at_fault(self):
        self.tells(BadLetter("F"), replace_dials, "fx", {"g": "", "F": "", "x": ""})
        self.tells(BadLetter("g"), replace_dials, "fx", {"g": "x", "F": ""})
        self.tells(BadLetter("fg"), replace_dials, "fx", {"fg": "h"})
        self.tells(BadLetter("1"), replace_dials, "fx", {"1": ""})
        self.tells(BadLetter("h"), replace_dials, "fx", {"h": "1"})

    def test_the_word_comes_first_and_the_result_last(self):
        self.tells(BadWord("f"), replace_dials, "f", {"x": ""})
        self.tells(BadLetter("g"), replace_dials, "fx", {"f": "h" * 40, "g": "x"})
        self.tells(BadWord("h" * 40 + "x"), replace_dials, "fx", {"f": "h" * 40})
        self.assertEqual(len(replace_dials("fx", {"f": "h" * 39})), 40)


if __name__ == "__main__":
    unittest.main()
