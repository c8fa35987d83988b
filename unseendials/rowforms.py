"""High and low rows of terms, and terms made of rows."""

from unseendials.errors import TooLarge
from unseendials.terms import Greater, Lesser, ThroughTerm, WordTerm

MOST_ROWS = 64


def _holds_one(mask, rows):
    """Return whether a row holds all words of one of the rows."""
    for row in rows:
        if row & mask == row:
            return True
    return False


def _least_rows(masks):
    """Return the rows that hold all words of no other row."""
    kept = []
    # A row that is a part of another one is the lesser number, so it is met first.
    for mask in sorted(set(masks)):
        if not _holds_one(mask, kept):
            kept.append(mask)
            if len(kept) > MOST_ROWS:
                raise TooLarge("rows")
    return kept


def _row_masks(term, head, bits, high):
    """Return the rows of the term behind the head, each as the sum of the bits of its words."""
    if isinstance(term, WordTerm):
        return [bits[head + term.word]]
    if isinstance(term, ThroughTerm):
        return _row_masks(term.inner, head + term.letter, bits, high)
    left = _row_masks(term.left, head, bits, high)
    right = _row_masks(term.right, head, bits, high)
    if isinstance(term, Greater) == high:
        return _least_rows(left + right)
    return _least_rows([one | other for one in left for other in right])


def _row_key(row):
    """Return what rows are compared by."""
    return len(row), [(len(word), word) for word in row]


def _rows(term, high):
    words = term.word_list()
    bits = {word: 1 << at for at, word in enumerate(words)}
    masks = _row_masks(term, "", bits, high)
    rows = [[word for word in words if mask & bits[word]] for mask in masks]
    return sorted(rows, key=_row_key)


def high_rows(term):
    """Return the high rows of the term."""
    return _rows(term, True)


def low_rows(term):
    """Return the low rows of the term."""
    return _rows(term, False)


def _joined(terms, lesser):
    """Return the lesser or the greater of the terms, joined from the left."""
    joined = terms[0]
    for term in terms[1:]:
        joined = Lesser(joined, term) if lesser else Greater(joined, term)
    return joined


def term_of_rows(rows, *, high=True):
    """Return the greatest of the lessers of the rows, or the least of the greaters."""
    terms = [_joined([WordTerm(word) for word in row], high) for row in rows]
    return _joined(terms, not high)
