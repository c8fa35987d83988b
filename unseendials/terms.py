"""Terms: words, letters in front of terms, and lessers and greaters of terms."""

from unseendials.errors import BadLetter, NotMade
from unseendials.words import (check_head, check_lengths, check_word, in_order, is_dial_letter,
                               points_of)


def word_term(word):
    """Return the term that is just this word."""
    return WordTerm(word)


def _carried(term, head):
    """Return the words of the term behind the head, in the order of the written form."""
    if isinstance(term, WordTerm):
        return [head + term.word]
    if isinstance(term, ThroughTerm):
        return _carried(term.inner, head + term.letter)
    return _carried(term.left, head) + _carried(term.right, head)


def _text_of(term):
    """Return the written form of the term."""
    if isinstance(term, WordTerm):
        return term.word
    if isinstance(term, ThroughTerm):
        return term.letter + _text_of(term.inner)
    sign = "&" if isinstance(term, Lesser) else "|"
    return f"({_text_of(term.left)} {sign} {_text_of(term.right)})"


def _value(term, head, world):
    """Return the value of the term behind the head."""
    # Letters are carried in, so that a missing place or table is told word by word.
    if isinstance(term, WordTerm):
        return world(head + term.word)
    if isinstance(term, ThroughTerm):
        return _value(term.inner, head + term.letter, world)
    left = _value(term.left, head, world)
    right = _value(term.right, head, world)
    return min(left, right) if isinstance(term, Lesser) else max(left, right)


def _renewed(term):
    """Return a new term that is built like the old one."""
    if isinstance(term, WordTerm):
        return WordTerm(term.word)
    if isinstance(term, ThroughTerm):
        return ThroughTerm(term.letter, term.inner)
    if isinstance(term, Lesser):
        return Lesser(term.left, term.right)
    return Greater(term.left, term.right)


def _fronted(head, term):
    """Return the term with the letters of the head in front."""
    fronted = _renewed(term)
    for letter in reversed(head):
        if isinstance(fronted, WordTerm):
            fronted = WordTerm(letter + fronted.word)
        else:
            fronted = ThroughTerm(letter, fronted)
    return fronted


def _put(outer, inner):
    """Return the term outer with inner in the place of its point."""
    if isinstance(outer, WordTerm):
        return _fronted(outer.word[:-1], inner)
    if isinstance(outer, ThroughTerm):
        return _fronted(outer.letter, _put(outer.inner, inner))
    left = _put(outer.left, inner)
    right = _put(outer.right, inner)
    return Lesser(left, right) if isinstance(outer, Lesser) else Greater(left, right)


def check_made(term):
    """Raise NotMade if the words of the term have several points."""
    points = term.point_list()
    if len(points) > 1:
        raise NotMade(tuple(points))


class Term:
    """The base of all terms."""

    def word_list(self):
        """Return the words of the term in word order, each once."""
        return in_order(_carried(self, ""))

    def point_list(self):
        """Return the points of the words in alphabetical order."""
        return points_of(_carried(self, ""))

    def written(self):
        """Return the written form."""
        return _text_of(self)

    def value_in(self, world):
        """Return the value of the term in the world."""
        return _value(self, "", world)

    def through(self, head):
        """Return the term with the letters of the head in front."""
        check_head(head)
        check_lengths([head + word for word in self.word_list()])
        return _fronted(head, self)

    def __call__(self, other):
        check_made(self)
        inner_words = other.word_list()
        check_lengths([word[:-1] + inner for word in self.word_list() for inner in inner_words])
        return _put(self, other)

    def __and__(self, other):
        return Lesser(self, other)

    def __or__(self, other):
        return Greater(self, other)

    def __eq__(self, other):
        return isinstance(other, Term) and _text_of(self) == _text_of(other)


class WordTerm(Term):
    """A word as a term."""

    def __init__(self, word):
        check_word(word)
        self.word = word


class ThroughTerm(Term):
    """A letter in front of a term."""

    def __init__(self, letter, inner):
        if not is_dial_letter(letter):
            raise BadLetter(letter)
        check_lengths([letter + word for word in inner.word_list()])
        self.letter = letter
        self.inner = inner


class PairTerm(Term):
    """Two terms that are joined."""

    def __init__(self, left, right):
        self.left = left
        self.right = right


class Lesser(PairTerm):
    """The lesser of two terms."""

    def __init__(self, left, right):
        super().__init__(left, right)


class Greater(PairTerm):
    """The greater of two terms."""

    def __init__(self, left, right):
        super().__init__(left, right)
