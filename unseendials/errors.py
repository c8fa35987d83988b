"""The errors of the package, each with the arguments that DOC.md lists for it."""


class DialError(ValueError):
    """The base of all errors of this package."""


class BadWord(DialError):
    """A text that should be a word is none."""

    def __init__(self, word):
        self.word = word


class BadLetter(DialError):
    """A text that should be a letter of a certain kind is none."""

    def __init__(self, letter):
        self.letter = letter


class BadFact(DialError):
    """A told pair has a part that is neither "1" nor a small dial letter."""

    def __init__(self, low, high):
        self.low = low
        self.high = high


class MixedFact(DialError):
    """A told pair joins a paired dial with an unpaired one."""

    def __init__(self, low, high):
        self.low = low
        self.high = high


class BadSteps(DialError):
    """A chain cannot have this many steps."""

    def __init__(self, many):
        self.many = many


class BadPlace(DialError):
    """A point, or the place of a point, is none."""

    def __init__(self, point, stand):
        self.point = point
        self.stand = stand


class BadTable(DialError):
    """A dial, or the table of a dial, is none."""

    def __init__(self, dial):
        self.dial = dial


class BrokenFact(DialError):
    """The tables do not keep a told pair; at is the lowest step that shows it."""

    def __init__(self, low, high, at):
        self.low = low
        self.high = high
        self.at = at


class NotGrounded(DialError):
    """A table that should show 0 at 0 does not."""

    def __init__(self, dial):
        self.dial = dial


class NoPlace(DialError):
    """A point has no place."""

    def __init__(self, point):
        self.point = point


class NoTable(DialError):
    """A letter has no table."""

    def __init__(self, letter):
        self.letter = letter


class NotPaired(DialError):
    """A back dial stands for a dial that is not paired."""

    def __init__(self, letter):
        self.letter = letter


class NoPairs(DialError):
    """A letter of a paired dial stands where no dial may be paired."""

    def __init__(self, letter):
        self.letter = letter


class Unlike(DialError):
    """Two objects do not have enough in common."""

    def __init__(self):
        pass


class NotMade(DialError):
    """A term that should be made has these several points."""

    def __init__(self, points):
        self.points = points


class BadEntry(DialError):
    """An entry has a letter, or a step, that it cannot have."""

    def __init__(self, letter, at, shown):
        self.letter = letter
        self.at = at
        self.shown = shown


class Clash(DialError):
    """Two entries break one of the four rules of entries."""

    def __init__(self, rule, one, other):
        self.rule = rule
        self.one = one
        self.other = other


class BadGroups(DialError):
    """Words do not make a ranking; the word is empty if no single one is at fault."""

    def __init__(self, word):
        self.word = word


class NotRanked(DialError):
    """A text is no word of those in question."""

    def __init__(self, word):
        self.word = word


class NotKept(DialError):
    """A ranking breaks a rule."""

    def __init__(self, rule):
        self.rule = rule


class BadStand(DialError):
    """Steps are told that cannot be used."""

    def __init__(self, at):
        self.at = at


class BadSign(DialError):
    """A sign is not the one that a comparison needs."""

    def __init__(self, sign):
        self.sign = sign


class BadSaying(DialError):
    """A saying, or its label, cannot stand."""

    def __init__(self, label):
        self.label = label


class NotPlain(DialError):
    """A word is not plain in a world."""

    def __init__(self, word):
        self.word = word


class NotOpen(DialError):
    """A claim that should be open has another verdict."""

    def __init__(self, verdict):
        self.verdict = verdict


class Refused(DialError):
    """A comparison cannot hold together with the tells of the blame."""

    def __init__(self, blame):
        self.blame = blame


class NothingTold(DialError):
    """There is no tell to take back."""

    def __init__(self):
        pass


class OverRoom(DialError):
    """A desk cannot have this room, or has no room left."""

    def __init__(self, most):
        self.most = most


class BadLine(DialError):
    """A line is not the written form of a comparison."""

    def __init__(self, line):
        self.line = line


class TooLarge(DialError):
    """What is handed in is larger than a bound allows."""

    def __init__(self, what):
        self.what = what
