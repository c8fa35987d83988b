"""Codes: points [106] to [115], as far as claims and sureness go."""

import random
import unittest

from brute import PAIRED_FACTS, PAIRED_WORDS, PLAIN_FACTS, PLAIN_WORDS, claims_with_facts, some_claims
from helpers import SOME_FACTS, DialCase
from unseendials.choices import count_terms
from unseendials.claims import Claim
from unseendials.codes import Coded, code_labels, code_points, code_three, code_two
from unseendials.comparisons import le
from unseendials.cuts import is_cut, walk_cuts
from unseendials.deciding import outcome_of
from unseendials.errors import BadWord, NotPaired, TooLarge
from unseendials.facts import Facts
from unseendials.fewest import fewest_cases
from unseendials.mirror import mirror_claim
from unseendials.relations import Frame
from unseendials.sureness import sure
from unseendials.trees import Node
from unseendials.words import dials_of, tail_set

LETTERS = "abcdefghijklmnopqrst"


def fresh(claim, facts):
    """Return the fresh dials in alphabetical order."""
    met = dials_of(claim.word_list()) + facts.dial_list()
    return [letter for letter in LETTERS if letter not in met]


def sides_of(claim):
    return {label: claim.side_of(label) for label in claim.label_list()}


def coded_word(word, dials, size):
    """Return a word in three or two dials; dials lists those of the claim in order."""
    parts = []
    for letter in word[:-1]:
        at = dials.index(letter) + 1
        parts.append("c" * at + "b" + "a" * at if size == 3 else "c" * at + "b" * at)
    return "".join(parts) + word[-1]


def short_claims(seed, many, tails=7, letters=4):
    """Return claims without back dials of at most so many tails and letters ahead of points."""
    return [claim for claim in some_claims(seed, many, PLAIN_WORDS, tails)
            if max(map(len, claim.word_list())) <= letters + 1 and
            len(dials_of(claim.word_list())) <= 4]


class TestPoints(DialCase):

    def test_coded_words_and_letters(self):
        for claim, facts in claims_with_facts(500, 8, 12):
            coded = code_points(claim, facts)
            told = tuple(zip(claim.point_list(), fresh(claim, facts)))
            self.assertEqual((coded.kind, coded.told_letters), ("points", told))
            self.assertIsInstance(coded, Coded)
            dials = dict(told)
            expected = {label: tuple(sorted((word[:-1] + dials[word[-1]] + "u" for word in side),
                                            key=lambda word: (len(word), word)) for side in sides)
                        for label, sides in sides_of(claim).items()}
            self.assertEqual(sides_of(coded.claim), expected)

    def test_sure_both_ways(self):
        met = {True: 0, False: 0}
        for claim, facts in claims_with_facts(510, 14, 9):
            if len(tail_set(code_points(claim, facts).claim.word_list())) <= 16:
                held = sure(claim, facts)
                self.assertEqual(sure(code_points(claim, facts).claim, facts), held)
                met[held] += 1
        self.assertGreater(min(met.values()), 20)

    def test_forty_letters_and_forty_one(self):
        for code in (code_points, code_labels):
            self.assertEqual(len(code(Claim.saying(["f" * 38 + "x"], [])).claim.word_list()[0]), 40)
            self.assertRaises(BadWord, code, Claim.saying(["f" * 39 + "x"], []))
        claim = Claim.named(v=(["f" * 39 + "x"], ["x"]), u=(["y"], ["h" * 39 + "x", "g" * 39 + "y"]))
        self.tells(BadWord("g" * 39 + "bu"), code_points, claim)
        self.tells(BadWord("a" + "g" * 39 + "y"), code_labels, claim)
        claim = Claim.named(v=(["f" * 39 + "x"], ["x"]), u=(["k" * 39 + "y"], ["g" * 39 + "y"]))
        self.tells(BadWord("k" * 39 + "bu"), code_points, claim)
        self.tells(BadWord("a" + "k" * 39 + "y"), code_labels, claim)
        self.tells(BadWord("b" + "f" * 39 + "x"), code_labels,
                   Claim.named(v=(["f" * 39 + "x"], ["x"]), u=(["y"], ["x"])))

    def test_too_few_fresh_dials(self):
        facts = Facts(*zip("abcdefghijklmnopq", "bcdefghijklmnopqr"))
        claim = Claim.named(u=(["sx"], ["x"]), v=(["y"], []))
        self.tells(TooLarge("letters"), code_points, claim, facts)
        self.tells(TooLarge("letters"), code_labels, claim, facts)
        one = Claim.named(v=(["sx"], ["x"]))
        self.assertEqual(code_points(one, facts).told_letters, (("x", "t"),))
        self.assertEqual(code_labels(one, facts).told_letters, (("v", "t"),))
        two = Claim.named(v=(["rx"], ["y"]), z=(["y"], []))
        self.assertEqual(code_points(two, facts).told_letters, (("x", "s"), ("y", "t")))
        self.assertEqual(code_labels(two, facts).told_letters, (("v", "s"), ("z", "t")))
        # The small letter of a back dial is met, too.
        self.assertEqual(code_points(Claim.of(le("Ax", "bx")), Facts(paired="a")).told_letters,
                         (("x", "c"),))

    def test_errors_in_order(self):
        facts = Facts(*zip("abcdefghijklmnopq", "bcdefghijklmnopqr"))
        for code in (code_points, code_labels):
            self.tells(NotPaired("T"), code, Claim.of(le("s" * 39 + "x", "Tx"), le("y", "z")), facts)
            self.tells(TooLarge("letters"), code, Claim.of(le("s" * 39 + "x", "tx"), le("y", "z")), facts)

    def test_none_for_facts(self):
        claim = Claim.of(le("x", "fx"))
        self.assertEqual(code_points(claim).claim, code_points(claim, Facts()).claim)
        self.assertEqual(code_labels(claim).claim, code_labels(claim, None).claim)


class TestLabels(DialCase):

    def test_coded_words_and_letters(self):
        for claim, facts in claims_with_facts(520, 8, 12):
            coded = code_labels(claim, facts)
            told = tuple(zip(claim.label_list(), fresh(claim, facts)))
            self.assertEqual((coded.kind, coded.told_letters), ("labels", told))
            dials = dict(told)
            sides = [sorted((dials[label] + word for label, both in sides_of(claim).items()
                             for word in both[at]), key=lambda word: (len(word), word)) for at in (0, 1)]
            self.assertEqual(sides_of(coded.claim), {"u": tuple(sides)})

    def test_sure_both_ways(self):
        met = {True: 0, False: 0}
        for claim, facts in claims_with_facts(530, 14, 9):
            coded = code_labels(claim, facts).claim
            if len(tail_set(coded.word_list())) <= 16:
                held = sure(claim, facts)
                self.assertEqual(sure(coded, facts), held)
                met[held] += 1
        self.assertGreater(min(met.values()), 20)

    def test_mirrors_of_one_another(self):
        for claim, facts in claims_with_facts(540, 12, 12):
            one = code_points(claim, facts)
            other = code_labels(mirror_claim(claim, facts), facts.mirrored())
            self.assertEqual(mirror_claim(one.claim, facts), other.claim)
            self.assertEqual(one.told_letters, other.told_letters)


class TestDials(DialCase):

    def test_coded_words_and_letters(self):
        for claim in short_claims(550, 60):
            dials = dials_of(claim.word_list())
            for code, kind, size in [(code_three, "three", 3), (code_two, "two", 2)]:
                coded = code(claim)
                told = tuple((dial, coded_word(dial + "x", dials, size)[:-1]) for dial in dials)
                self.assertEqual((coded.kind, coded.told_letters), (kind, told))
                expected = {label: tuple(sorted((coded_word(word, dials, size) for word in side),
                                                key=lambda word: (len(word), word)) for side in sides)
                            for label, sides in sides_of(claim).items()}
                self.assertEqual(sides_of(coded.claim), expected)

    def test_sure_both_ways(self):
        met = {}
        for claim in short_claims(560, 400, 5, 2):
            for code in (code_three, code_two):
                coded = code(claim).claim
                if len(tail_set(coded.word_list())) <= 16:
                    held = sure(claim)
                    self.assertEqual(sure(coded), held)
                    met[code, held] = met.get((code, held), 0) + 1
        self.assertEqual(len(met), 4)
        self.assertGreater(min(met.values()), 10)

    def test_four_dials_and_five(self):
        claim = Claim.of(le("fghkx", "kkkky"))
        self.assertEqual(code_three(claim).claim.word_list(),
                         ["cbaccbaacccbaaaccccbaaaax", "ccccbaaaa" * 4 + "y"])
        self.assertEqual(code_two(claim).claim.word_list(),
                         ["cbccbbcccbbbccccbbbbx", "ccccbbbb" * 4 + "y"])
        for code in (code_three, code_two):
            self.tells(TooLarge("dials"), code, Claim.of(le("fgx", "hkx"), le("fffffy", "ly")))
            self.tells(TooLarge("letters"), code, Claim.of(le("fffffy", "kx")))
            self.tells(NotPaired("F"), code, Claim.of(le("fgx", "hKx"), le("ffffffy", "lFy")))
            self.tells(NotPaired("A"), code, Claim.of(le("x", "aAx")))
            self.assertEqual(code(Claim.of(le("x", "y"))).told_letters, ())
            self.assertEqual(code(Claim.of(le("x", "y"))).claim, Claim.of(le("x", "y")))

    def test_refutations_are_as_short(self):
        for claim in short_claims(570, 300, 5, 1):
            denial = claim.denial()
            if not sure(claim):
                continue
            many = fewest_cases(denial)
            for coded in (code_points(claim), code_three(claim), code_two(claim)):
                if len(coded.claim.denial().tail_list()) <= 10:
                    self.assertLessEqual(fewest_cases(coded.claim.denial()), many)

    def test_one_saying_one_point_two_dials(self):
        met = {True: 0, False: 0}
        rows = [Claim.of(le("x", "x")), Claim.of(le("x", "y")), Claim.of(le("x", "y"), le("y", "x")),
                Claim.saying(["x", "y"], ["x"]), Claim.saying([], ["x"]), Claim.saying(["x"], ["y", "x"]),
                Claim.of(le("x", "fx")), Claim.of(le("x", "fx"), le("fx", "ffx")),
                Claim.saying(["fx", "y"], ["fy", "x"]), Claim.of(le("x", "fx"), le("fx", "x"))]
        rows += [claim for claim in some_claims(590, 200, ["x", "y", "fx", "fy"], 4)
                 if len(claim) + len(claim.point_list()) + len(dials_of(claim.word_list())) <= 4][:40]
        for claim in rows:
            last = code_two(code_labels(code_points(claim).claim).claim).claim
            self.assertEqual((len(last), last.point_list()), (1, ["u"]))
            self.assertLessEqual(set(dials_of(last.word_list())), {"b", "c"})
            denial = last.denial()
            end = outcome_of(denial, Frame(denial.tail_list(), Facts()))
            self.assertEqual(isinstance(end, Node), sure(claim))
            met[sure(claim)] += 1
        self.assertGreater(min(met.values()), 3)


class TestWordsAndCuts(DialCase):

    def test_different_words_stay_different(self):
        luck = random.Random(3)
        for words, facts in [(PLAIN_WORDS, PLAIN_FACTS), (PAIRED_WORDS, PAIRED_FACTS)]:
            for one in facts:
                some = luck.sample(words, 8)
                coded = code_points(Claim.saying(some, []), one).claim
                self.assertEqual(len(coded.word_list()), 8)

    def test_possible_cuts(self):
        for facts in [Facts(), Facts(("1", "f")), Facts(("f", "g")), Facts(paired="a")]:
            words = ["x", "y", "fx", "Ay"] if facts.paired else ["x", "fx", "gy"]
            told = dict(code_points(Claim.saying(words, []), facts).told_letters)
            coded = {word: word[:-1] + told[word[-1]] + "u" for word in words}
            cuts = [[coded[word] for word in cut] for cut in walk_cuts(words, facts)]
            found = list(walk_cuts(list(coded.values()), facts))
            self.assertEqual(sorted(sorted(cut) for cut in cuts), sorted(sorted(cut) for cut in found))
            self.assertEqual(count_terms(words, facts), count_terms(list(coded.values()), facts))
        words = ["x", "fx", "y"]
        for code, size in [(code_three, 3), (code_two, 2)]:
            coded = {word: coded_word(word, ["f"], size) for word in words}
            self.assertEqual(code(Claim.saying(words, [])).claim.side_of("u")[0],
                             sorted(coded.values(), key=lambda word: (len(word), word)))
            for cut in [[], ["x"], ["fx"], ["y"], ["x", "fx"], ["x", "y"], ["fx", "y"], words]:
                self.assertEqual(is_cut(cut, words), is_cut([coded[word] for word in cut],
                                                            list(coded.values())))
            self.assertEqual(count_terms(words), count_terms(list(coded.values())))

    def test_a_fresh_dial_in_front_or_ahead(self):
        met = {True: 0, False: 0}
        for claim, facts in claims_with_facts(580, 25, 8):
            dial = fresh(claim, facts)[0]
            held = sure(claim, facts)
            if len(claim) == 1:
                label = claim.label_list()[0]
                above, below = claim.side_of(label)
                front = Claim.saying([dial + word for word in above], [dial + word for word in below])
                self.assertEqual(sure(front, facts), held)
                met[held] += 1
            if len(claim.point_list()) == 1:
                rows = [(label, *[[word[:-1] + dial + word[-1] for word in side] for side in sides])
                        for label, sides in sides_of(claim).items()]
                self.assertEqual(sure(Claim(rows), facts), held)
                met[held] += 1
        self.assertGreater(min(met.values()), 15)

    def test_facts_are_known(self):
        for facts in SOME_FACTS:
            claim = Claim.of(le("x", "y"))
            taken = [dial for _, dial in code_points(claim, facts).told_letters]
            self.assertEqual(taken, fresh(claim, facts)[:2])


class TestCoded(DialCase):

    def test_attributes(self):
        claim = Claim.of(le("x", "y"))
        coded = Coded("two", claim, (("f", "cb"),))
        self.assertEqual((coded.kind, coded.claim, coded.told_letters), ("two", claim, (("f", "cb"),)))
        told = code_three(Claim.of(le("fx", "gx"))).told_letters
        self.assertIsInstance(told, tuple)
        self.assertEqual(told, (("f", "cba"), ("g", "ccbaa")))
        self.assertTrue(all(isinstance(pair, tuple) for pair in told))


if __name__ == "__main__":
    unittest.main()
