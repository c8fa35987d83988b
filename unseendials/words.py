"""Words: their letters, heads and tails, and the order of words."""

from unseendials.errors import BadLetter, BadWord

SMALL_LETTERS = "abcdefghijklmnopqrst"
CAPITAL_LETTERS = "ABCDEFGHIJKLMNOPQRST"
POINT_LETTERS = "uvwxyz"
MOST_LETTERS = 40


def is_small(text):
    """Return whether the text is a small dial letter."""
    return len(text) == 1 and text in SMALL_LETTERS


def is_capital(text):
    """Return whether the text is a capital, the letter of a back dial."""
    return len(text) == 1 and text in CAPITAL_LETTERS


def is_point(text):
    """Return whether the text is a point letter."""
    return len(text) == 1 and text in POINT_LETTERS


def is_dial_letter(text):
    """Return whether the text is a small dial letter or a capital."""
    return is_small(text) or is_capital(text)


def is_head(text):
    """Return whether all signs of the text are small dial letters or capitals."""
    return all([is_dial_letter(sign) for sign in text])


def is_word(text):
    """Return whether the text is a word."""
    return 1 <= len(text) <= MOST_LETTERS and is_point(text[-1]) and is_head(text[:-1])


def check_word(word):
    """Raise BadWord if the text is no word."""
    if not is_word(word):
        raise BadWord(word)


def check_words(words):
    """Raise BadWord for the first text that is no word."""
    for word in words:
        check_word(word)


def check_lengths(words):
    """Raise BadWord for the first of the words, in word order, that is too long."""
    long_words = [word for word in words if len(word) > MOST_LETTERS]
    if long_words:
        raise BadWord(word_ordered(long_words)[0])


def check_head(head):
    """Raise BadLetter for the first sign that cannot stand in a head."""
    for sign in head:
        if not is_dial_letter(sign):
            raise BadLetter(sign)


def check_heads(heads):
    """Raise BadLetter for the first key that cannot be replaced by its head."""
    for dial, head in heads.items():
        if not is_small(dial) or not is_head(head):
            raise BadLetter(dial)


def word_ordered(words):
    """Return the texts in word order, each once, without a look at what they are."""
    # The letters stand in the code table in the order that word order wants.
    return sorted(sorted(set(words)), key=len)


def heads(word):
    """Return what stands in front of the tails, the shortest first."""
    check_word(word)
    return [word[:at] for at in range(len(word))]


def tails(word):
    """Return the ends of the word, the longest first."""
    check_word(word)
    return [word[at:] for at in range(len(word))]


def first_letter(word):
    """Return the first letter, for a point the point."""
    check_word(word)
    return word[0]


def rest_of(word):
    """Return the word without its first letter."""
    check_word(word)
    return word[1:]


def point_of(word):
    """Return the point of the word."""
    check_word(word)
    return word[-1]


def in_order(words):
    """Return the words in word order, each once."""
    check_words(words)
    return word_ordered(words)


def tail_set(words):
    """Return all tails of the words in word order, each once."""
    return word_ordered([tail for word in words for tail in tails(word)])


def dials_of(words):
    """Return the small letters of all dials and back dials of the words."""
    check_words(words)
    return sorted({letter.lower() for word in words for letter in word[:-1]})


def points_of(words):
    """Return the points of the words."""
    check_words(words)
    return sorted({word[-1] for word in words})


def partner(letter):
    """Return the capital of a small dial letter, and the other way round."""
    if is_small(letter):
        return letter.upper()
    if is_capital(letter):
        return letter.lower()
    raise BadLetter(letter)


def replace_dials(word, heads):
    """Return the word with each letter that is a key of heads replaced by its head."""
    check_word(word)
    check_heads(heads)
    result = "".join([heads.get(letter, letter) for letter in word])
    if len(result) > MOST_LETTERS:
        raise BadWord(result)
    return result
