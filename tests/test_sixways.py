"""Six ways to look at one claim answer alike."""

import unittest

from brute import PLAIN_FACTS, PLAIN_WORDS, claim_holds, kept_orders, some_claims
from helpers import DialCase
from unseendials.choices import failing_counts
from unseendials.cuts import is_cut
from unseendials.desk import Desk
from unseendials.fewest import fewest_cases
from unseendials.headorders import head_order
from unseendials.leastchain import chain_world, least_chain
from unseendials.listings import walk_rankings
from unseendials.mirror import mirror_claim
from unseendials.sketches import Sketch
from unseendials.stacks import one_for_all
from unseendials.strictly import strict_failing
from unseendials.sureness import denial_tree, failing_world, sure
from unseendials.weighing import count_holding, count_worlds
from unseendials.words import dials_of


class TestSixWays(DialCase):

    def test_all_answer_alike(self):
        met = {True: 0, False: 0}
        for at, facts in enumerate(PLAIN_FACTS):
            for claim in some_claims(1200 + at, 25, PLAIN_WORDS, 5):
                held = all(claim_holds(ranks, claim) for ranks in kept_orders(claim.word_list(), facts))
                self.looked_at(claim, facts, held)
                met[held] += 1
        self.assertGreater(min(met.values()), 20)

    def looked_at(self, claim, facts, held):
        denial = claim.denial()
        self.assertIs(sure(claim, facts), held)
        self.assertEqual((denial_tree(claim, facts) is not None, failing_world(claim, facts) is None),
                         (held, held))
        rankings = [ranking for ranking in walk_rankings(claim.word_list(), facts)
                    if all(ranking.rank_of(one.first) < ranking.rank_of(one.second) for one in denial)]
        counts = [sum(len(ranking) == many for ranking in rankings)
                  for many in range(1, len(denial.tail_list()) + 1)]
        self.assertEqual(failing_counts(claim, facts), counts)
        self.assertEqual(any(counts), not held)
        chain = least_chain(denial, facts)
        self.assertEqual(chain, None if held else 1 + [many > 0 for many in counts].index(True))
        self.assertEqual(fewest_cases(denial, facts) is None, not held)
        if len(claim) == 1:
            above, below = claim.side_of(claim.label_list()[0])
            words = sorted(set(above + below))
            apart = not set(above) & set(below)
            self.assertEqual(apart and is_cut(above, words, facts), not held)
        answer = Desk(facts).ask(claim)
        self.assertEqual(answer.verdict == "sure", held)
        some = any(claim_holds(ranks, claim) for ranks in kept_orders(claim.word_list(), facts))
        self.assertEqual(answer.verdict == "never", not some)
        self.assertEqual(Desk(facts, strict=True).ask(claim).verdict == "sure", held)
        self.other_ways(claim, facts, held, chain)

    def other_ways(self, claim, facts, held, chain):
        self.assertEqual(strict_failing(claim, facts) is None, held)
        self.assertEqual(head_order(claim, facts) is None, held)
        self.assertIs(sure(mirror_claim(claim, facts), facts.mirrored()), held)
        self.assertEqual(one_for_all([claim], facts)[1] == [None], held)
        if not held:
            world = chain_world(claim.denial(), facts)
            places = {point: world.place_of(point) for point in claim.point_list()}
            sketch = Sketch(chain, facts, places=places)
            dials = dials_of(claim.word_list())
            self.assertLess(count_holding(claim, sketch, dials), count_worlds(sketch, dials))


if __name__ == "__main__":
    unittest.main()
