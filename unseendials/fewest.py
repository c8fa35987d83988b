"""Fewest cases: refutations with as few cases in a row as possible, and standings."""

from unseendials.bounds import bounded_tails
from unseendials.comparisons import le
from unseendials.deciding import outcome_of
from unseendials.errors import TooLarge
from unseendials.facts import told_facts
from unseendials.relations import Frame, Relation
from unseendials.trees import Case

MOST_TAILS = 10
MOST_STANDING = 7
MOST_HEIGHT = 3


class DepthSearch:
    """A search for refutations with a bounded number of cases in a row."""

    def __init__(self, frame, bars):
        self.frame = frame
        self.bars = bars
        self._failed = {}

    def tree_within(self, relation, depth):
        """Return a tidy tree with at most that many cases in a row, or None."""
        bar = relation.met_bar(self.bars)
        if bar is not None:
            return self.frame.leaf_of(bar)
        # Many ways lead to one relation: what has failed there need not be tried again.
        key = tuple(relation.ups)
        if depth <= self._failed.get(key, -1):
            return None
        tree = self._case_within(relation, depth) if depth > 0 else None
        if tree is None:
            self._failed[key] = depth
        return tree

    def _case_within(self, relation, depth):
        for one, other in self.frame.pairs:
            if relation.compares(one, other):
                continue
            left = self.tree_within(relation.grown(one, other), depth - 1)
            if left is None:
                continue
            right = self.tree_within(relation.grown(other, one), depth - 1)
            if right is not None:
                return Case(self.frame.words[one], self.frame.words[other], left, right)
        return None


def fewest_tree(tale, facts=None, *, strict=False):
    """Return a tidy refutation with the fewest cases in a row, or None."""
    known = told_facts(facts)
    tail_list = bounded_tails(tale.tail_list(), known, MOST_TAILS, strict=strict)
    frame = Frame(tail_list, known, strict=strict)
    found = outcome_of(tale, frame)
    if isinstance(found, Relation):
        return None
    search = DepthSearch(frame, frame.bars_of(tale))
    for depth in range(found.in_a_row()):
        tree = search.tree_within(frame.told_relation(tale), depth)
        if tree is not None:
            return tree
    return found


def fewest_cases(tale, facts=None, *, strict=False):
    """Return the fewest cases of an impossible tale, None if the tale is possible."""
    tree = fewest_tree(tale, facts, strict=strict)
    return None if tree is None else tree.in_a_row()


class Standing:
    """Answers to all pairs of words, and standings behind them: no few cases refute."""

    def __init__(self, height, answers):
        self.height = height
        self._answers = {(p, q): (answer, behind) for (p, q), (answer, behind) in answers.items()}

    def answer_of(self, p, q):
        """Return the answer for two words and the standing behind it, or None."""
        return self._answers.get((p, q), self._answers.get((q, p)))


class StandingSearch:
    """A search for standings in which none of the bars holds."""

    def __init__(self, frame, bars):
        self.frame = frame
        self.bars = bars
        self._found = {}

    def standing_of(self, relation, height):
        """Return a standing of that height, or None."""
        if relation.met_bar(self.bars) is not None:
            return None
        key = (height, tuple(relation.ups))
        if key not in self._found:
            answers = self._answers_of(relation, height) if height > 0 else {}
            self._found[key] = None if answers is None else Standing(height, answers)
        return self._found[key]

    def _answers_of(self, relation, height):
        """Return the answers to all pairs of words, or None if some pair has none."""
        answers = {}
        for pair in self.frame.pairs:
            answer = self._answer_to(relation, pair, height)
            if answer is None:
                return None
            p, q = pair
            answers[(self.frame.words[p], self.frame.words[q])] = answer
        return answers

    def _answer_to(self, relation, pair, height):
        for one, other in (pair, pair[::-1]):
            behind = self.standing_of(relation.grown(one, other), height - 1)
            if behind is not None:
                return le(self.frame.words[one], self.frame.words[other]), behind
        return None


def standing(tale, facts=None, *, height, strict=False):
    """Return a standing of that height of the tale, or None if there is none."""
    known = told_facts(facts)
    tail_list = bounded_tails(tale.tail_list(), known, MOST_STANDING, strict=strict)
    if not 0 <= height <= MOST_HEIGHT:
        raise TooLarge("height")
    frame = Frame(tail_list, known, strict=strict)
    search = StandingSearch(frame, frame.bars_of(tale))
    return search.standing_of(frame.told_relation(tale), height)
