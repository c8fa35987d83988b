"""The desk: points [136] to [140], [142] and [143], and answers."""

import random
import unittest

from brute import (PAIRED_FACTS, PAIRED_WORDS, PLAIN_FACTS, PLAIN_WORDS, bears, claim_holds, held_in,
                   refuted_by, some_claims, value_in)
from deskbrute import blame_of, deciders_of, orders_of, verdict_of, words_of
from helpers import DialCase
from strictbrute import knot_value, strictly_bears
from unseendials.answers import Answer
from unseendials.claims import Claim
from unseendials.comparisons import Comparison, Tale, le, lt
from unseendials.deciding import is_refutation
from unseendials.desk import Desk
from unseendials.errors import (BadLine, NoPairs, NothingTold, NotOpen, NotPaired, OverRoom, Refused,
                                TooLarge)
from unseendials.facts import Facts
from unseendials.following import follows
from unseendials.knots import KnotWorld
from unseendials.strictly import strictly_follows
from unseendials.trees import Node
from unseendials.words import tail_set
from unseendials.worlds import World

FREE = [letter + "x" for letter in "abcdefghijklmno"]
KINDS = [(facts, strict, PLAIN_WORDS) for strict in (False, True) for facts in PLAIN_FACTS] + \
    [(facts, False, PAIRED_WORDS) for facts in PAIRED_FACTS]


def short_words(words, luck, most=5):
    """Return a few words with at most so many tails."""
    while True:
        some = luck.sample(words, luck.randint(2, 4))
        if len(tail_set(some)) <= most:
            return some


def some_comparison(words, luck):
    return Comparison(luck.choice(words), luck.choice(["<", "<=", "<="]), luck.choice(words))


def told_desks(seed, many):
    """Return desks that have been told a few comparisons, with the words that were chosen from."""
    luck = random.Random(seed)
    for facts, strict, words in KINDS:
        for _ in range(many):
            desk, some = Desk(facts, strict=strict), short_words(words, luck)
            for _ in range(luck.randint(0, 3)):
                try:
                    desk.tell(some_comparison(some, luck))
                except Refused:
                    pass
            yield desk, some, luck


def refused_blame(desk, comparison):
    """Return the blame with which a desk refuses the comparison, None if it does not."""
    before = desk.log_lines()
    try:
        desk.tell(comparison)
    except Refused as error:
        assert desk.log_lines() == before
        return error.blame
    assert desk.log_lines() == [*before, comparison.written()]
    desk.undo()
    return None


class TestTells(DialCase):

    def test_refused_exactly_if_impossible_together(self):
        met = {}
        for desk, words, luck in told_desks(1000, 12):
            tells = desk.tell_list()
            for _ in range(5):
                one = some_comparison(tail_set(words), luck)
                expected = blame_of(tells, one, desk.facts, desk.strict)
                blame = refused_blame(desk, one)
                self.assertEqual(blame, None if expected is None else tuple(expected))
                many = -1 if blame is None else len(blame)
                met[many] = met.get(many, 0) + 1
        self.assertLessEqual({-1, 0, 1, 2}, set(met))

    def test_blame_that_skips_tells(self):
        desk = Desk()
        for one in (lt("x", "y"), le("z", "z"), le("y", "z"), lt("x", "y"), lt("y", "u")):
            desk.tell(one)
        blame = refused_blame(desk, lt("z", "x"))
        # Each place by itself: the first of the two equal tells goes, the second one stays.
        self.assertEqual([tell.written() for tell in blame], ["y <= z", "x < y"])
        self.assertIsInstance(blame, tuple)
        self.assertEqual(refused_blame(desk, lt("x", "x")), ())
        self.assertEqual(refused_blame(Desk(Facts(("f", "1"))), lt("x", "fx")), ())

    def test_told_twice_stands_twice(self):
        desk = Desk()
        desk.tell(lt("x", "y"))
        desk.tell(lt("x", "y"))
        self.assertEqual(desk.tell_list(), [lt("x", "y"), lt("x", "y")])
        self.assertIsNone(desk.tell(le("x", "y")))
        self.assertEqual(desk.log_lines(), ["x < y", "x < y", "x <= y"])

    def test_strict_and_plain_ones(self):
        plain, strict = Desk(), Desk(strict=True)
        for desk in (plain, strict):
            desk.tell(le("fx", "fy"))
        self.assertIsNone(refused_blame(plain, lt("y", "x")))
        self.assertEqual(refused_blame(strict, lt("y", "x")), (le("fx", "fy"),))
        self.assertEqual((plain.strict, strict.strict), (False, True))
        self.assertEqual((plain.facts, plain.room, Desk.ROOM), (Facts(), 12, 12))

    def test_handed_out_and_in(self):
        one = lt("x", "y")
        desk = Desk()
        desk.tell(one)
        one.first = "z"
        desk.tell_list().append(one)
        desk.tell_list()[0].second = "z"
        self.assertEqual(desk.tell_list(), [lt("x", "y")])
        desk.log_lines().clear()
        self.assertEqual(desk.log_lines(), ["x < y"])

    def test_errors_in_order(self):
        self.tells(NoPairs("a"), Desk, Facts(paired="ba"), strict=True)
        desk = Desk(Facts(paired="a"))
        for letter in "bcdefghijkl":
            desk.tell(le("x", letter + "x"))
        desk.tell(le("x", "aAx"))
        wide = le("ppppx", "qx")
        self.tells(NotPaired("F"), desk.tell, lt("x", "Fx"))
        self.tells(OverRoom(12), desk.tell, wide)
        self.tells(OverRoom(12), desk.tell, lt("x", "x"))
        desk.undo()
        self.assertEqual(len(tail_set(words_of(desk.tell_list()))), 12)
        self.tells(TooLarge("words"), desk.tell, wide)
        self.tells(TooLarge("words"), desk.tell, lt("pppppx", "pppppx"))
        self.assertEqual(refused_blame(desk, lt("ppppx", "ppppx")), ())
        self.assertEqual(refused_blame(desk, lt("bx", "x")), (le("x", "bx"),))
        desk.tell(le("pppx", "qx"))
        self.assertEqual(len(desk.tell_list()), 12)

    def test_sixteen_tails_and_seventeen(self):
        desk = Desk()
        for at in range(7):
            desk.tell(lt(FREE[2 * at], FREE[2 * at + 1]))
        desk.tell(le("x", FREE[14]))
        self.assertEqual(len(tail_set(words_of(desk.tell_list()))), 16)
        self.tells(TooLarge("words"), desk.tell, le("x", "y"))
        self.tells(TooLarge("words"), desk.ask, Claim.of(le("x", "y")))
        self.tells(TooLarge("words"), desk.deciders, Claim.of(le("x", "y")))
        self.assertEqual(desk.ask(Claim.of(le("ax", "bx"))).verdict, "sure")
        self.assertEqual(desk.ask(Claim.of(le("ax", "cx"))).verdict, "open")
        self.assertIsInstance(desk.bearer(), World)


class TestAnswers(DialCase):

    def told_right(self, desk, claim, answer):
        """Assert that an answer is told by what point [138] says."""
        tells, facts, strict = desk.tell_list(), desk.facts, desk.strict
        tale = Tale.listed(tells)
        self.assertIsInstance(answer.told_by, tuple)
        if answer.verdict == "sure":
            (node,) = answer.told_by
            self.refutes(node, tale + claim.denial(), facts, strict)
        elif answer.verdict == "never":
            rows = [(label, u, v) for label in claim.label_list() for u in claim.side_of(label)[0]
                    for v in claim.side_of(label)[1]]
            self.assertEqual([row for row, _ in answer.told_by], rows)
            for (_, u, v), node in answer.told_by:
                self.refutes(node, tale.told(le(u, v)), facts, strict)
        else:
            words = words_of(tells) + claim.word_list()
            for world, holds in zip(answer.told_by, (True, False)):
                self.bears(world, Tale.listed(tells, words), facts, strict)
                values = {word: knot_value(world, word) if strict else value_in(world, word)
                          for word in claim.word_list()}
                self.assertEqual(claim_holds(values, claim), holds)
            self.assertEqual(len(answer.told_by), 2)

    def refutes(self, node, tale, facts, strict):
        self.assertIsInstance(node, Node)
        self.assertTrue(refuted_by(node, tale, facts, strict=strict))
        self.assertIs(is_refutation(node, tale, facts, strict=strict), True)

    def bears(self, world, tale, facts, strict):
        self.assertIsInstance(world, KnotWorld if strict else World)
        self.assertTrue(strictly_bears(world, tale, facts) if strict else bears(world, tale, facts))

    def test_verdicts_are_those_of_all_orders(self):
        met = {}
        for desk, words, luck in told_desks(1010, 12):
            for claim in some_claims(luck.randrange(9999), 3, tail_set(words), 5):
                answer = desk.ask(claim)
                self.assertIsInstance(answer, Answer)
                self.assertEqual(answer.verdict, verdict_of(desk.tell_list(), claim, desk.facts, desk.strict))
                self.told_right(desk, claim, answer)
                met[answer.verdict, desk.strict] = met.get((answer.verdict, desk.strict), 0) + 1
        self.assertEqual(len(met), 6)
        self.assertGreater(min(met.values()), 10)

    def test_larger_desks(self):
        luck, met = random.Random(5), {}
        for facts, strict, words in KINDS:
            desk = Desk(facts, strict=strict)
            for _ in range(12):
                try:
                    desk.tell(some_comparison(words[:8], luck))
                except Refused:
                    pass
            for claim in some_claims(luck.randrange(9999), 4, words[:10], 12):
                answer = desk.ask(claim)
                self.told_right(desk, claim, answer)
                met[answer.verdict] = met.get(answer.verdict, 0) + 1
        self.assertEqual(len(met), 3)

    def test_empty_sides(self):
        desk = Desk()
        desk.tell(lt("x", "y"))
        answer = desk.ask(Claim.named(u=([], ["x"]), v=(["fy"], [])))
        self.assertEqual((answer.verdict, answer.told_by), ("never", ()))
        answer = desk.ask(Claim.named(u=([], ["x"]), v=(["y"], ["x"])))
        self.assertEqual([row for row, _ in answer.told_by], [("v", "y", "x")])
        self.assertEqual(desk.ask(Claim.named(u=([], ["x"]), v=(["x"], ["y"]))).verdict, "sure")

    def test_points_and_dials_of_the_worlds(self):
        for strict in (False, True):
            desk = Desk(Facts(("k", "k")), strict=strict)
            desk.tell(lt("gz", "y"))
            answer = desk.ask(Claim.named(v=(["x", "fu"], ["y"])))
            for world in answer.told_by:
                self.assertEqual(world.point_list(), ["u", "x", "y", "z"])
                self.assertEqual(world.dial_list(), ["f", "g", "k"])
            self.assertEqual(desk.bearer().point_list(), ["y", "z"])
            self.assertEqual(desk.bearer().dial_list(), ["g", "k"])

    def test_answers_keep_what_is_handed_in(self):
        told = ("any", ["thing"])
        answer = Answer("open", told)
        self.assertEqual(answer.verdict, "open")
        self.assertIs(answer.told_by, told)

    def test_bearers(self):
        for desk, _, _ in told_desks(1020, 4):
            self.bears(desk.bearer(), Tale.listed(desk.tell_list()), desk.facts, desk.strict)
        for strict in (False, True):
            self.bears(Desk(strict=strict).bearer(), Tale(), Facts(), strict)

    def test_errors_in_order(self):
        desk = Desk(Facts(paired="a"))
        wide = Claim.saying(FREE[:8], [*FREE[8:], "y"])
        for call in (desk.ask, desk.deciders):
            self.tells(TooLarge("words"), call, wide)
            self.tells(NotPaired("B"), call, Claim.saying(FREE[:8], [*FREE[9:], "aBy"]))
        self.tells(NotPaired("A"), Desk(strict=True).ask, Claim.of(le("Ax", "x")))
        self.tells(NotOpen("sure"), desk.deciders, Claim.of(le("x", "Aax")))
        self.tells(NotOpen("never"), desk.deciders, Claim.saying([], ["x"]))


class TestDeciders(DialCase):

    def test_as_all_orders_say(self):
        many = 0
        for desk, words, luck in told_desks(1030, 12):
            for claim in some_claims(luck.randrange(9999), 3, tail_set(words), 5):
                if verdict_of(desk.tell_list(), claim, desk.facts, desk.strict) != "open":
                    continue
                found = desk.deciders(claim)
                expected = deciders_of(desk.tell_list(), claim, desk.facts, desk.strict)
                self.assertEqual([one.written() for one in found], expected)
                many += len(found)
        self.assertGreater(many, 100)

    def test_telling_one_makes_sure(self):
        others = {}
        for desk, words, luck in told_desks(1040, 3):
            for claim in some_claims(luck.randrange(9999), 1, tail_set(words), 5):
                if desk.ask(claim).verdict != "open":
                    continue
                found = desk.deciders(claim)
                tails = tail_set(words_of(desk.tell_list()) + claim.word_list())
                for one in [le(p, q) for p in tails for q in tails if p != q]:
                    try:
                        desk.tell(one)
                    except Refused:
                        self.assertNotIn(one, found)
                        continue
                    verdict = desk.ask(claim).verdict
                    desk.undo()
                    self.assertEqual(verdict == "sure", one in found)
                    others[verdict] = others.get(verdict, 0) + 1
        self.assertLessEqual({"open", "sure"}, set(others))
        desk = Desk()
        desk.tell(lt("z", "x"))
        self.assertEqual(desk.deciders(Claim.of(le("x", "y"))), [le("x", "y")])
        desk.tell(le("y", "z"))
        self.assertEqual(desk.ask(Claim.of(le("x", "y"))).verdict, "never")

    def test_example(self):
        desk = Desk(Facts(("1", "f")))
        claim = Claim.of(le("x", "y"))
        self.assertEqual(desk.deciders(claim), [le("x", "y")])
        desk.tell(le("x", "fx"))
        self.assertEqual(desk.deciders(claim), [le("x", "y"), le("fx", "y")])

    def test_a_full_desk(self):
        desk = Desk()
        desk.tell(le("x", "fx"))
        before = [one.written() for one in desk.deciders(Claim.of(le("x", "y")))]
        desk.set_room(1)
        self.assertEqual([one.written() for one in desk.deciders(Claim.of(le("x", "y")))], before)

    def test_order_and_repetitions_make_no_difference(self):
        for desk, words, luck in told_desks(1050, 4):
            tells = desk.tell_list()
            other = Desk(desk.facts, strict=desk.strict)
            for one in tells[::-1] + tells[:1]:
                other.tell(one)
            for claim in some_claims(luck.randrange(9999), 2, tail_set(words), 5):
                verdict = desk.ask(claim).verdict
                self.assertEqual(other.ask(claim).verdict, verdict)
                if verdict == "open":
                    self.assertEqual(other.deciders(claim), desk.deciders(claim))

    def test_a_tell_that_follows_makes_no_difference(self):
        several = 0
        for desk, words, luck in told_desks(1060, 6):
            tale = Tale.listed(desk.tell_list())
            call = strictly_follows if desk.strict else follows
            rows = [Comparison(p, sign, q) for p in tail_set(words) for q in tail_set(words)
                    for sign in ("<", "<=")]
            rows = [one for one in rows if one.first != one.second and call(tale, one, desk.facts)]
            if not rows:
                continue
            one = luck.choice(rows)
            known = set(words_of(desk.tell_list()))
            claim = some_claims(luck.randrange(9999), 1, tail_set(words), 5)[0]
            verdict = desk.ask(claim).verdict
            found = desk.deciders(claim) if verdict == "open" else []
            desk.tell(one)
            self.assertEqual(desk.ask(claim).verdict, verdict)
            tails = set(tail_set([*known, *claim.word_list()]))
            if verdict == "open" and {one.first, one.second} <= tails:
                self.assertEqual(desk.deciders(claim), found)
                several += 1
        self.assertGreater(several, 5)


class TestPlainAndStrict(DialCase):

    def test_what_one_says_of_the_other(self):
        luck, met = random.Random(7), {}
        for facts in PLAIN_FACTS:
            for _ in range(25):
                words = tail_set(short_words(PLAIN_WORDS, luck))
                plain, strict = Desk(facts), Desk(facts, strict=True)
                for _ in range(luck.randint(0, 3)):
                    one = some_comparison(words, luck)
                    try:
                        strict.tell(one)
                    except Refused:
                        continue
                    plain.tell(one)
                claim = some_claims(luck.randrange(9999), 1, words, 5)[0]
                verdicts = plain.ask(claim).verdict, strict.ask(claim).verdict
                if verdicts[0] != "open":
                    self.assertEqual(verdicts[1], verdicts[0])
                if all(tell.sign == "<" for tell in plain.tell_list()):
                    self.assertEqual(verdicts[0] == "sure", verdicts[1] == "sure")
                if verdicts == ("open", "open"):
                    found = strict.deciders(claim)
                    for one in plain.deciders(claim):
                        self.assertTrue(one in found or refused_blame(strict, one) is not None)
                met[verdicts] = met.get(verdicts, 0) + 1
        self.assertLessEqual({("sure", "sure"), ("never", "never"), ("open", "open")}, set(met))

    def test_open_and_never(self):
        plain, strict = Desk(), Desk(strict=True)
        for desk in (plain, strict):
            desk.tell(lt("y", "x"))
        claim = Claim.of(le("fx", "fy"))
        self.assertEqual((plain.ask(claim).verdict, strict.ask(claim).verdict), ("open", "never"))


class TestLog(DialCase):

    def test_a_desk_from_its_log(self):
        for desk, _, _ in told_desks(1070, 3):
            other = Desk.from_log(desk.facts, desk.log_lines(), strict=desk.strict)
            self.assertEqual(other.tell_list(), desk.tell_list())
            self.assertEqual(other.log_lines(), [tell.written() for tell in desk.tell_list()])
            self.assertEqual((other.facts, other.strict, other.room), (desk.facts, desk.strict, 12))
        self.assertEqual(Desk.from_log(None, ()).tell_list(), [])

    def test_bad_lines(self):
        good = "x < fy"
        for line in ["", "x", "x <", "x < y ", " x < y", "x  < y", "x <  y", "x = y", "x > y", "x < y < z",
                     "x < y\n", "x\t< y", "x<y", "xx < y", "x < 1", "x <= yy", "x =< y", "f <= x"]:
            self.tells(BadLine(line), Desk.from_log, None, [good, line, "no"])
        self.tells(BadLine("no"), Desk.from_log, Facts(paired="a"), ["x < x", "no"], strict=True)

    def test_errors_of_making_and_telling(self):
        self.tells(NoPairs("a"), Desk.from_log, Facts(paired="a"), ["x < x"], strict=True)
        self.tells(NotPaired("F"), Desk.from_log, Facts(paired="a"), ["x < y", "Fx < y", "x < x"])
        self.tells(OverRoom(12), Desk.from_log, None, ["x < y"] * 13)
        self.assertEqual(len(Desk.from_log(None, ["x < y"] * 12).tell_list()), 12)
        with self.assertRaises(Refused) as caught:
            Desk.from_log(None, ["x < y", "y < z", "z < x"])
        self.assertEqual([tell.written() for tell in caught.exception.blame], ["x < y", "y < z"])
        self.assertEqual(len(orders_of(["x"], Facts(), False)), 1)
        self.assertTrue(held_in({"x": 0, "y": 1}, lt("x", "y")))


class TestRoomAndUndo(DialCase):

    def test_room(self):
        desk = Desk()
        desk.tell(lt("x", "y"))
        desk.tell(lt("y", "z"))
        for most in (1, 13, -1, 0):
            self.tells(OverRoom(most), desk.set_room, most)
            self.tells(OverRoom(most), setattr, desk, "room", most)
            self.assertEqual(desk.room, 12)
        self.assertIsNone(desk.set_room(2))
        self.assertEqual(desk.room, 2)
        self.tells(OverRoom(2), desk.tell, lt("x", "z"))
        desk.room = 3
        desk.tell(lt("x", "z"))
        self.assertEqual((desk.room, len(desk.tell_list())), (3, 3))
        desk.room = 12
        self.assertEqual(desk.room, 12)
        empty = Desk()
        empty.room = 0
        self.tells(OverRoom(0), empty.tell, lt("x", "y"))

    def test_undo(self):
        desk = Desk()
        desk.tell(lt("x", "y"))
        desk.tell(le("y", "z"))
        self.assertEqual(desk.undo(), le("y", "z"))
        self.assertEqual(desk.tell_list(), [lt("x", "y")])
        self.assertEqual(desk.undo(), lt("x", "y"))
        self.tells(NothingTold(), desk.undo)
        self.assertEqual(desk.tell_list(), [])
        desk.tell(lt("y", "x"))
        self.assertEqual(desk.log_lines(), ["y < x"])


if __name__ == "__main__":
    unittest.main()
