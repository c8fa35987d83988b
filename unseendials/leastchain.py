"""Least chains: the fewest steps on which a tale is borne, and refutations for fewer steps."""

from unseendials.bounds import bounded_tails
from unseendials.checks import check_steps
from unseendials.deciding import bearing_world, outcome_of
from unseendials.facts import told_facts
from unseendials.relations import Frame, Relation, bits
from unseendials.solving import Search
from unseendials.trees import Crowd
from unseendials.worlds import World

MOST_TAILS = 7


def _upward(relation):
    """Return the words in an order in which none is lower than one before it."""
    return [at for _, at in sorted([(len(bits(mask)), at) for at, mask in enumerate(relation.downs)])]


def _one_of_each(relation):
    """Return one word of each group of a relation that compares all words, lowest first."""
    row = []
    for at in _upward(relation):
        if len(row) == 0 or not relation.holds(at, row[-1]):
            row.append(at)
    return row


class ChainSearch(Search):
    """A search for relations that compare all words and have at most so many groups."""

    def _parted(self, relation):
        row = self._forced_row(relation)
        if len(row) > self.most:
            return self._crowded(relation, row)
        for one, other in self.frame.pairs:
            if not relation.compares(one, other):
                return self._outcome_of_both(relation, one, other)
        row = _one_of_each(relation)
        return self._crowded(relation, row) if len(row) > self.most else relation

    def _forced_row(self, relation):
        """Return a longest row of words each of which is forced to be higher than the last."""
        rows = [[]]
        for high in _upward(relation):
            below = [row for row in rows if len(row) == 0 or self._is_lower(relation, row[-1], high)]
            rows.append([*max(below, key=len), high])
        return max(rows, key=len)

    def _is_lower(self, relation, low, high):
        if not relation.holds(low, high):
            return False
        return relation.grown(high, low).met_bar(self.bars) is not None

    def _crowded(self, relation, row):
        """Return the outcome of a crowding of the first words of the row."""
        branches = []
        for at in range(self.most):
            end = self.outcome(relation.grown(row[at + 1], row[at]))
            if isinstance(end, Relation) or self._refuted(end, relation):
                return end
            branches.append(end)
        return Crowd([self.frame.words[at] for at in row[:self.most + 1]], branches)


def _chain_outcome(tale, frame, steps):
    search = ChainSearch(frame, frame.bars_of(tale), steps)
    return search.outcome(frame.told_relation(tale))


def _least_relation(tale, frame):
    """Return a relation with as few groups as possible that bears the tale, or None."""
    if not isinstance(outcome_of(tale, frame), Relation):
        return None
    steps = 1
    end = _chain_outcome(tale, frame, steps)
    while not isinstance(end, Relation):
        steps += 1
        end = _chain_outcome(tale, frame, steps)
    return end


def chain_world(tale, facts=None):
    """Return a world on the least chain that bears the tale, or None if it is impossible."""
    known = told_facts(facts)
    frame = Frame(bounded_tails(tale.tail_list(), known, MOST_TAILS, pairs=False), known)
    relation = _least_relation(tale, frame)
    return None if relation is None else bearing_world(frame, relation, known)


def least_chain(tale, facts=None):
    """Return the number of steps of the least chain, or None if the tale is impossible."""
    world = chain_world(tale, facts)
    return None if world is None else world.steps


def chain_tree(tale, facts=None, *, steps):
    """Return a refutation of the tale for that many steps, or None if there is none."""
    known = told_facts(facts)
    frame = Frame(bounded_tails(tale.tail_list(), known, MOST_TAILS, pairs=False), known)
    check_steps(steps, World.MOST)
    end = _chain_outcome(tale, frame, steps)
    return None if isinstance(end, Relation) else end
