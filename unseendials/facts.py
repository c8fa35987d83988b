"""Facts: told pairs and paired dials."""

from unseendials.errors import BadFact, BadLetter, MixedFact, TooLarge
from unseendials.words import is_dial_letter, is_small


def is_part(text):
    """Return whether the text can be a part of a told pair."""
    return text == "1" or is_small(text)


def told_facts(facts):
    """Return the facts, which may be handed in as None."""
    return Facts() if facts is None else facts


def _different(pairs):
    """Return the pairs as tuples, each once, in the order of telling."""
    rows = []
    for low, high in pairs:
        if (low, high) not in rows:
            rows.append((low, high))
    return tuple(rows)


def _check_told(pairs, paired, most):
    for letter in paired:
        if not is_small(letter):
            raise BadLetter(letter)
    for low, high in pairs:
        if not is_part(low) or not is_part(high):
            raise BadFact(low, high)
    for low, high in pairs:
        if "1" not in (low, high) and (low in paired) != (high in paired):
            raise MixedFact(low, high)
    if len(_different(pairs)) > most:
        raise TooLarge("facts")


def _spread(low, rows):
    """Return all parts that low is under, low first, and for each the index it came from."""
    found = [low]
    came_from = [0]
    at = 0
    while at < len(found):
        for one, other in rows:
            if one == found[at] and other not in found:
                found.append(other)
                came_from.append(at)
        at += 1
    return found, came_from


class Facts:
    """Told pairs and paired dials; low of a told pair never shows more than high."""

    MOST = 24

    def __init__(self, *below, paired=""):
        _check_told(below, paired, Facts.MOST)
        self._rows = _different(below)
        self._paired = "".join(sorted(set(paired)))
        parts = sorted({low for low, high in self._rows})
        self._over = {part: _spread(part, self._rows)[0] for part in parts}

    @staticmethod
    def listed(pairs, paired=""):
        """Return the facts for a list of told pairs."""
        return Facts(*pairs, paired=paired)

    @property
    def paired(self):
        """The paired dials in alphabetical order."""
        return self._paired

    def under(self, low, high):
        """Return whether low is under high."""
        for part in (low, high):
            if not is_part(part):
                raise BadLetter(part)
        return low == high or high in self._over.get(low, ())

    def path(self, low, high):
        """Return a row of told pairs that leads from low to high, or None."""
        if not self.under(low, high):
            return None
        found, came_from = _spread(low, self._rows)
        at = found.index(high)
        row = [high]
        while at > 0:
            at = came_from[at]
            row.append(found[at])
        return row[::-1]

    def has_pair(self, letter):
        """Return whether the letter is that of a paired dial, small or capital."""
        return is_dial_letter(letter) and letter.lower() in self._paired

    def dial_list(self):
        """Return the dials of the facts in alphabetical order."""
        told = [part for pair in self._rows for part in pair if part != "1"]
        return sorted(set([*told, *self._paired]))

    def within(self, other):
        """Return whether these facts are within the other ones."""
        if self._paired != other.paired:
            return False
        return all([other.under(low, high) for low, high in self._rows])

    def mirrored(self):
        """Return the facts with each told pair of a paired dial turned round."""
        rows = [(high, low) if low in self._paired or high in self._paired else (low, high)
                for low, high in self._rows]
        return Facts.listed(rows, self._paired)

    def turned(self):
        """Return the facts with each told pair of an unpaired dial turned round."""
        fixed = self._paired + "1"
        rows = [(low, high) if low in fixed and high in fixed else (high, low)
                for low, high in self._rows]
        return Facts.listed(rows, self._paired)

    def __eq__(self, other):
        return isinstance(other, Facts) and self.within(other) and other.within(self)

    def __or__(self, other):
        return Facts.listed(list(self._rows) + list(other), self._paired + other.paired)

    def __len__(self):
        return len(self._rows)

    def __iter__(self):
        return iter(self._rows)

    def __contains__(self, pair):
        return pair in self._rows
