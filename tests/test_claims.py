"""Claims, sayings and denials: points [61] and [62]."""

import unittest

from brute import claim_holds, claims_with_facts, some_worlds, value_in
from helpers import DialCase
from unseendials.claims import Claim
from unseendials.comparisons import le, lt
from unseendials.errors import BadSaying, BadSign, BadWord, NoPlace, NoTable, TooLarge
from unseendials.facts import Facts
from unseendials.worlds import World

SIX = [letter + "x" for letter in "abcdef"]


def denial_rows(claim):
    return [one.written() for one in claim.denial()]


class TestMaking(DialCase):

    def test_parts(self):
        claim = Claim([("v", ["gx", "fy", "gx"], ["z"]), ("u", [], ("y", "x"))])
        self.assertEqual(claim.label_list(), ["u", "v"])
        self.assertEqual(claim.side_of("v"), (["fy", "gx"], ["z"]))
        self.assertEqual(claim.side_of("u"), ([], ["x", "y"]))
        self.assertEqual(claim.word_list(), ["x", "y", "z", "fy", "gx"])
        self.assertEqual(claim.point_list(), ["x", "y", "z"])
        self.assertEqual(len(claim), 2)
        for label in ["w", "", "a", "uv"]:
            self.tells(BadSaying(label), claim.side_of, label)

    def test_words_first_triple_by_triple(self):
        self.tells(BadWord("f"), Claim, [("a", ["x"], ["f"]), ("u", ["g"], [])])
        self.tells(BadWord("f"), Claim, [("a", ["f"], ["g"])])
        self.tells(BadWord("g"), Claim, [("u", [], []), ("v", ["x", "g"], ["f"])])

    def test_labels_and_sides(self):
        for label in ["a", "", "uv", "1", "U"]:
            self.tells(BadSaying(label), Claim, [("u", ["x"], []), (label, ["x"], [])])
        self.tells(BadSaying("u"), Claim, [("u", ["x"], []), ("u", ["x"], []), ("a", [], [])])
        self.tells(BadSaying("v"), Claim, [("v", [], []), ("a", ["x"], [])])
        self.tells(BadSaying("a"), Claim, [("a", ["x"], []), ("u", [], [])])
        self.tells(BadSaying(""), Claim, [])
        self.assertEqual(len(Claim([(label, ["x"], []) for label in "zyxwvu"])), 6)

    def test_sixteen_words_and_seventeen(self):
        eight = [letter + "x" for letter in "abcdefgh"]
        Claim([("u", eight, eight)])
        Claim([("u", eight + eight, eight + ["ax"])])
        Claim([("u", eight, []), ("v", eight, [])])
        self.tells(TooLarge("words"), Claim, [("u", eight + ["x"], eight)])
        self.tells(TooLarge("words"), Claim, [("u", eight, ["x"]), ("v", [], eight)])
        self.tells(BadSaying("u"), Claim, [("u", eight + ["x"], eight), ("u", ["x"], [])])

    def test_named(self):
        claim = Claim.named(v=(["fx"], ["y"]), u=((), ("x",)))
        self.assertEqual(claim, Claim([("u", [], ["x"]), ("v", ["fx"], ["y"])]))
        self.tells(BadWord("f"), Claim.named, a=(["x"], ["f"]), u=(["g"], []))
        self.tells(BadSaying("b"), Claim.named, v=(["x"], []), b=(["x"], []), a=(["x"], []))
        self.tells(BadSaying("u"), Claim.named, u=([], []))
        self.tells(BadSaying(""), Claim.named)

    def test_saying(self):
        self.assertEqual(Claim.saying(["fx"], ["x"]), Claim([("u", ["fx"], ["x"])]))
        self.assertEqual(Claim.saying(["fx"], [], label="z"), Claim([("z", ["fx"], [])]))
        self.assertEqual(Claim.saying([], ["x"], "y"), Claim([("y", [], ["x"])]))
        self.tells(BadSaying("a"), Claim.saying, ["x"], ["x"], "a")
        self.tells(BadSaying("u"), Claim.saying, [], [])

    def test_of(self):
        rows = [le("x", "fy"), le("y", "x"), le("x", "x")]
        self.assertEqual(Claim.of(*rows), Claim.named(u=(["x"], ["fy"]), v=(["y"], ["x"]),
                                                      w=(["x"], ["x"])))
        self.assertEqual(Claim.of(*rows, *rows).label_list(), list("uvwxyz"))
        self.tells(BadSaying(""), Claim.of)
        self.tells(BadSaying(""), Claim.of, *[lt("x", "y")] * 7)
        self.tells(BadSign("<"), Claim.of, le("x", "y"), lt("x", "y"))

    def test_sum(self):
        first = Claim.named(u=(["x"], ["y"]), w=([], ["fx"]))
        second = Claim.named(z=(["x"], []), v=(["gx"], ["y"]))
        self.assertEqual(first + second, Claim.named(u=(["x"], ["y"]), w=([], ["fx"]),
                                                     z=(["x"], []), v=(["gx"], ["y"])))
        self.assertEqual(first + second, second + first)
        self.assertEqual((len(first), len(second)), (2, 2))
        third = Claim.named(w=(["x"], ["y"]), u=(["x"], []))
        with self.assertRaises(BadSaying) as caught:
            first + third
        self.assertEqual(caught.exception.label, "u")
        wide = Claim.saying([letter + "x" for letter in "abcdefgh"], SIX, "v")
        self.tells(TooLarge("words"), lambda: first + wide)
        self.tells(BadSaying("u"), lambda: first + Claim.named(u=(wide.word_list(), SIX)))

    def test_equal(self):
        claim = Claim.named(u=(["x", "fx"], ["y"]))
        self.assertEqual(claim, Claim.saying(["fx", "x", "x"], ["y"]))
        for other in [Claim.saying(["x"], ["y"]), Claim.saying(["x", "fx"], ["y"], "v"),
                      Claim.saying(["y"], ["x", "fx"]), claim + Claim.saying(["x"], [], "v"), None, "u"]:
            self.assertNotEqual(claim, other)

    def test_copies(self):
        above, rows = ["x"], []
        rows.append(("u", above, ["y"]))
        claim = Claim(rows)
        above.append("fx")
        rows.append(("v", ["x"], []))
        self.assertEqual((len(claim), claim.side_of("u")), (1, (["x"], ["y"])))
        claim.side_of("u")[0].append("z")
        claim.word_list().clear()
        claim.label_list().clear()
        self.assertEqual((claim.side_of("u"), claim.word_list(), claim.label_list()),
                         ((["x"], ["y"]), ["x", "y"], ["u"]))


class TestDenial(DialCase):

    def test_order_of_its_comparisons(self):
        claim = Claim.named(v=(["gx", "y"], ["fy", "x"]), u=(["z"], ["fz"]))
        self.assertEqual(denial_rows(claim), ["fz < z", "x < y", "fy < y", "x < gx", "fy < gx"])

    def test_empty_sides(self):
        for claim in [Claim.saying(["fx"], []), Claim.saying([], ["fx"])]:
            self.assertEqual(denial_rows(claim), [])
            self.assertEqual(claim.denial().tail_list(), ["x", "fx"])
            self.assertIs(claim.holds_in(World(1, {"x": 0}, {"f": [0]})), False)

    def test_tails(self):
        for claim, _ in claims_with_facts(201, 5, 8):
            words = claim.word_list()
            self.assertEqual(set(claim.denial().tail_list()),
                             {word[at:] for word in words for at in range(len(word))})

    def test_borne_exactly_where_the_claim_fails(self):
        met = {True: 0, False: 0}
        for claim, facts in claims_with_facts(211, 4, 8):
            if "h" in "".join(claim.word_list()):
                continue
            dials = "fg" if not facts.paired else "fa"
            for world in some_worlds(1, 12, facts, dials, "xy"):
                values = {word: value_in(world, word) for word in claim.word_list()}
                held = claim_holds(values, claim)
                self.assertIs(claim.holds_in(world), held)
                self.assertIs(claim.denial().borne_by(world), not held)
                met[held] += 1
        self.assertGreater(min(met.values()), 50)

    def test_all_words_are_asked_in_word_order(self):
        world = World(2, {"x": 0}, {"f": [0, 1]}, Facts())
        claim = Claim.named(u=(["x"], ["x"]), v=(["hx"], ["gx", "z"]), w=(["fy"], []))
        self.tells(NoPlace("z"), claim.holds_in, world)
        self.tells(NoPlace("y"), Claim.named(u=(["x"], ["x"]), v=(["hx"], ["fy"])).holds_in, world)
        self.tells(NoTable("g"), Claim.named(u=(["x"], ["hx"]), v=(["gx"], [])).holds_in, world)


if __name__ == "__main__":
    unittest.main()
