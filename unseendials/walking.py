"""Walking a tree: whether it refutes what is told at its root."""

from unseendials.trees import Case, Crowd, Leaf


def _leaf_closes(node, frame, relation, bars):
    if node.first not in frame.numbers or node.second not in frame.numbers:
        return False
    bar = frame.pair_of(node.second, node.first)
    return bar in bars and relation.holds(*bar)


def _case_closes(node, frame, relation, bars, steps):
    if node.first not in frame.numbers or node.second not in frame.numbers:
        return False
    one, other = frame.pair_of(node.first, node.second)
    return (refutes(node.left, frame, relation.grown(one, other), bars, steps)
            and refutes(node.right, frame, relation.grown(other, one), bars, steps))


def _crowd_closes(node, frame, relation, bars, steps):
    if steps is None or len(node.crowd) != steps + 1 or len(node.branches) != steps:
        return False
    if not all([word in frame.numbers for word in node.crowd]):
        return False
    row = [frame.numbers[word] for word in node.crowd]
    for at, branch in enumerate(node.branches):
        if not refutes(branch, frame, relation.grown(row[at + 1], row[at]), bars, steps):
            return False
    return True


def refutes(node, frame, relation, bars, steps=None):
    """Return whether the tree refutes what the relation holds, on chains of that many steps.

    A leaf may name the comparison behind any of the bars. Without steps there is no crowding.
    """
    if isinstance(node, Leaf):
        return _leaf_closes(node, frame, relation, bars)
    if isinstance(node, Case):
        return _case_closes(node, frame, relation, bars, steps)
    if isinstance(node, Crowd):
        return _crowd_closes(node, frame, relation, bars, steps)
    return False
