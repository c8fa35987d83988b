"""Trials on a desk: point [141]."""

import random
import unittest

from brute import some_claims
from helpers import DialCase
from test_desk import some_comparison, told_desks
from unseendials.claims import Claim
from unseendials.comparisons import le, lt
from unseendials.desk import Desk
from unseendials.errors import DialError, NothingTold, NotPaired, OverRoom, Refused, TooLarge
from unseendials.trials import Trial, what_if
from unseendials.words import tail_set


def state_of(desk):
    return desk.log_lines(), desk.room


class TestTrial(DialCase):

    def setUp(self):
        self.desk = Desk()
        self.desk.tell(lt("x", "y"))
        self.desk.tell(le("y", "z"))
        self.desk.set_room(5)

    def test_it_binds_the_desk_and_ends(self):
        with Trial(self.desk) as tried:
            self.assertIs(tried, self.desk)
            tried.tell(lt("z", "u"))
            self.assertEqual(tried.ask(Claim.of(le("x", "u"))).verdict, "sure")
            tried.room = 3
            self.tells(OverRoom(3), tried.tell, lt("x", "u"))
        self.assertEqual(state_of(self.desk), (["x < y", "y <= z"], 5))
        self.assertEqual(self.desk.ask(Claim.of(le("x", "u"))).verdict, "open")

    def test_what_was_taken_back_stands_again(self):
        with Trial(self.desk) as tried:
            self.assertEqual(tried.undo(), le("y", "z"))
            self.assertEqual(tried.undo(), lt("x", "y"))
            tried.tell(lt("y", "x"))
            tried.set_room(1)
            self.assertEqual(state_of(tried), (["y < x"], 1))
        self.assertEqual(state_of(self.desk), (["x < y", "y <= z"], 5))

    def test_errors_go_on(self):
        with self.assertRaises(Refused):
            with Trial(self.desk) as tried:
                tried.undo()
                tried.tell(lt("y", "x"))
        self.assertEqual(state_of(self.desk), (["x < y", "y <= z"], 5))
        with self.assertRaises(ZeroDivisionError):
            with Trial(self.desk) as tried:
                tried.room = 12
                tried.undo()
                raise ZeroDivisionError
        self.assertEqual(state_of(self.desk), (["x < y", "y <= z"], 5))

    def test_trials_within_trials(self):
        with Trial(self.desk) as outer:
            outer.tell(lt("z", "u"))
            outer.room = 6
            with Trial(self.desk) as inner:
                self.assertIs(inner, outer)
                inner.undo()
                inner.undo()
                inner.room = 2
                with self.assertRaises(NothingTold), Trial(inner) as third:
                    third.undo()
                    third.undo()
                self.assertEqual(state_of(inner), (["x < y"], 2))
            self.assertEqual(state_of(self.desk), (["x < y", "y <= z", "z < u"], 6))
        self.assertEqual(state_of(self.desk), (["x < y", "y <= z"], 5))

    def test_used_again_when_the_block_has_ended(self):
        trial = Trial(self.desk)
        with trial as tried:
            tried.undo()
        self.desk.tell(lt("z", "w"))
        self.desk.room = 4
        with trial as tried:
            self.assertEqual(len(tried.tell_list()), 3)
            tried.undo()
            tried.room = 12
        self.assertEqual(state_of(self.desk), (["x < y", "y <= z", "z < w"], 4))

    def test_a_trial_begins_with_its_block(self):
        trial = Trial(self.desk)
        self.desk.undo()
        with trial:
            self.desk.undo()
        self.assertEqual(state_of(self.desk), (["x < y"], 5))

    def test_strict_desks(self):
        desk = Desk(strict=True)
        with Trial(desk) as tried:
            tried.tell(le("fx", "fy"))
            self.assertEqual(tried.ask(Claim.of(le("x", "y"))).verdict, "sure")
        self.assertEqual(desk.ask(Claim.of(le("x", "y"))).verdict, "open")


class TestWhatIf(DialCase):

    def setUp(self):
        self.desk = Desk()
        self.desk.tell(lt("x", "y"))
        self.desk.tell(lt("y", "z"))

    def test_verdicts(self):
        claim = Claim.of(le("x", "z"))
        for told, expected in [({}, "sure"), ({"undone": 1}, "open"), ({"undone": 2}, "open"),
                               ({"undone": 1, "telling": [lt("z", "x")]}, "never"),
                               ({"undone": 2, "telling": (le("x", "z"),), "room": 2}, "sure"),
                               ({"room": 2}, "sure"), ({"room": None, "undone": 0, "telling": []}, "sure")]:
            self.assertEqual(what_if(self.desk, claim, **told), expected)
            self.assertEqual(state_of(self.desk), (["x < y", "y < z"], 12))

    def test_errors_in_order(self):
        claim = Claim.of(le("x", "Fz"))
        told = {"room": 1, "undone": 5, "telling": [le("x", "Fx")]}
        for change, error in [({}, OverRoom(1)), ({"room": 2}, NothingTold()),
                              ({"room": 2, "undone": 0}, NotPaired("F")),
                              ({"room": 2, "undone": 0, "telling": [lt("z", "u")]}, OverRoom(2)),
                              ({"room": 3, "undone": 0, "telling": [lt("z", "z")]}, Refused(())),
                              ({"room": 3, "undone": 0, "telling": [lt("z", "u")]}, NotPaired("F"))]:
            self.tells(error, what_if, self.desk, claim, **{**told, **change})
            self.assertEqual(state_of(self.desk), (["x < y", "y < z"], 12))
        # The room is set before anything is taken back.
        self.tells(OverRoom(0), what_if, self.desk, claim, room=0, undone=2)
        wide = Claim.saying([letter + "x" for letter in "abcdefgh"], [letter + "x" for letter in "ijklmn"])
        self.tells(TooLarge("words"), what_if, self.desk, wide)
        self.assertEqual(what_if(self.desk, wide, undone=2), "open")

    def test_the_telling_is_told_in_order(self):
        with self.assertRaises(Refused) as caught:
            what_if(self.desk, Claim.of(le("x", "z")), telling=[lt("z", "u"), lt("u", "x"), lt("x", "x")])
        self.assertEqual([tell.written() for tell in caught.exception.blame],
                         ["x < y", "y < z", "z < u"])

    def test_as_a_desk_that_is_told_so(self):
        luck, met = random.Random(3), {}
        for desk, words, _ in told_desks(1100, 3):
            before = state_of(desk)
            undone = luck.randint(0, len(desk.tell_list()))
            telling = [some_comparison(tail_set(words), luck) for _ in range(luck.randint(0, 2))]
            claim = some_claims(luck.randrange(9999), 1, tail_set(words), 5)[0]
            other = Desk(desk.facts, strict=desk.strict)
            try:
                for one in desk.tell_list()[:len(desk.tell_list()) - undone] + telling:
                    other.tell(one)
                expected = other.ask(claim).verdict
            except Refused as error:
                expected = [tell.written() for tell in error.blame]
            try:
                found = what_if(desk, claim, undone=undone, telling=telling)
            except Refused as error:
                found = [tell.written() for tell in error.blame]
            self.assertEqual(found, expected)
            self.assertEqual(state_of(desk), before)
            met[str(expected)] = True
        self.assertGreater(len(met), 3)


class TestRandomTrials(DialCase):

    def test_whatever_is_done_in_a_trial(self):
        luck = random.Random(4)
        for desk, _, _ in told_desks(1110, 2):
            before = state_of(desk)
            words = ["x", "y", "fx"] if desk.facts.paired == "" else ["x", "ax", "Ax"]
            try:
                with Trial(desk) as tried:
                    for _ in range(8):
                        move = luck.choice(["tell", "tell", "undo", "room", "ask"])
                        if move == "tell":
                            tried.tell(some_comparison(words, luck))
                        elif move == "undo":
                            tried.undo()
                        elif move == "room":
                            tried.set_room(luck.randint(0, 13))
                        else:
                            tried.ask(Claim.saying(words[:1], words[1:]))
            except DialError:
                pass
            self.assertEqual(state_of(desk), before)


if __name__ == "__main__":
    unittest.main()
