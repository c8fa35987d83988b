"""The four rules of rankings, written out for the words of a tail set."""

from unseendials.words import is_capital, is_small


def _behind(words, fits):
    """Return for each dial, and "1", the pairs (whole, rest) of the words that it leads."""
    pairs = {"1": [(word, word) for word in words]}
    for word in words:
        if fits(word[0]):
            pairs.setdefault(word[0].lower(), []).append((word, word[1:]))
    return pairs


def _rows_of(a, b, fronts, backs):
    """Return the rules for one pair of letters, a under b."""
    rows = []
    for ap, p in fronts.get(a, []):
        rows.extend([((1, a, b, p, q), (p, q), (ap, bq)) for bq, q in fronts.get(b, [])])
        rows.extend([((2, a, b, p, q), (p, back), (ap, q)) for back, q in backs.get(b, [])])
    for back, q in backs.get(a, []):
        rows.extend([((3, a, b, p, q), (bp, q), (p, back)) for bp, p in fronts.get(b, [])])
        rows.extend([((4, a, b, p, q), (p, q), (bp, back)) for bp, p in backs.get(b, [])])
    return rows


def rule_rows(words, facts):
    """Return the rules for the words of a tail set that fits the facts.

    Each row is a tuple (named, given, gives). named is (rule, a, b, p, q); given and gives are
    pairs of words: if the first word of given is at most the second one, so it is with gives.
    """
    fronts = _behind(words, is_small)
    backs = _behind(words, is_capital)
    parts = sorted(set([*fronts, *backs]))
    # 1 in front of both words says nothing new, so this pair of letters is left out.
    return [row for a in parts for b in parts if (a, b) != ("1", "1") and facts.under(a, b)
            for row in _rows_of(a, b, fronts, backs)]
