"""Rules, closings, orders, trees and worlds reckoned straight from their descriptions."""

import functools
import itertools
import random

from helpers import back_of, parts_under, table_choices, weak_orders
from unseendials.claims import Claim
from unseendials.comparisons import Comparison, Tale
from unseendials.facts import Facts
from unseendials.terms import Lesser, WordTerm, word_term
from unseendials.trees import Case, Crowd, Leaf
from unseendials.words import dials_of, points_of, tail_set
from unseendials.worlds import World


def front(letter, word):
    return word if letter == "1" else letter + word


def rule_sides(rule, a, b, p, q):
    """Return the comparison that a rule starts from and the one that it gives."""
    back_a, back_b = a.upper(), b.upper()
    return {1: ((p, q), (front(a, p), front(b, q))),
            2: ((p, front(back_b, q)), (front(a, p), q)),
            3: ((front(b, p), q), (p, front(back_a, q))),
            4: ((p, q), (front(back_b, p), front(back_a, q))),
            5: ((front(b, p), front(a, q)), (p, q))}[rule]


def rule_counts(rule, a, b, facts):
    """Return whether the rule is meant for these letters."""
    if b not in parts_under(facts, a) or (rule == 5 and "1" in (a, b)):
        return False
    backs = {2: b, 3: a, 4: a + b}.get(rule, "")
    return all(letter == "1" or letter in facts.paired for letter in backs)


def rule_instances(words, facts, strict=False):
    """Return all (given, gives) of the rules for the words of a tail set."""
    known, found = set(words), set()
    parts = ["1"] + dials_of(words)
    for rule in (1, 2, 3, 4, 5) if strict else (1, 2, 3, 4):
        for a, b in itertools.product(parts, repeat=2):
            if rule_counts(rule, a, b, facts):
                for p, q in itertools.product(words, repeat=2):
                    given, gives = rule_sides(rule, a, b, p, q)
                    if {p, q, *given, *gives} <= known and given != gives:
                        found.add((given, gives))
    return sorted(found)


def closure(words, facts, pairs, strict=False):
    """Return the closing of the pairs over the tail set of the words, as a set of pairs."""
    rules = {}
    for given, gives in rule_instances(words, facts, strict):
        rules.setdefault(given, []).append(gives)
    held = set()
    waiting = [*pairs, *((word, word) for word in words)]
    while waiting:
        p, q = waiting.pop()
        if (p, q) not in held:
            held.add((p, q))
            waiting.extend(rules.get((p, q), []))
            waiting.extend((r, q) for r in words if (r, p) in held)
            waiting.extend((p, r) for r in words if (q, r) in held)
    return held


def kept_orders(words, facts):
    """Return all orders with ties of the tails of the words that keep the facts, as dicts."""
    return list(_kept_orders(tuple(tail_set(words)), tuple(facts), facts.paired))


@functools.lru_cache(maxsize=None)
def _kept_orders(words, pairs, paired):
    rules = [tuple(words.index(word) for word in (*given, *gives))
             for given, gives in rule_instances(words, Facts.listed(pairs, paired))]
    return [dict(zip(words, ranks)) for ranks in weak_orders(len(words))
            if all(ranks[one] > ranks[other] or ranks[low] <= ranks[high]
                   for one, other, low, high in rules)]


def held_in(ranks, comparison):
    """Return whether a comparison holds for numbers of words."""
    one, other = ranks[comparison.first], ranks[comparison.second]
    return one < other or (one == other and comparison.sign == "<=")


def bearing_orders(tale, facts):
    """Return the orders of the tails of the tale that keep the facts and bear it."""
    return [ranks for ranks in kept_orders(tale.tail_list(), facts)
            if all(held_in(ranks, comparison) for comparison in tale)]


def value_in(world, word):
    """Return the value of a word, by the tables of the dials alone."""
    step = world.place_of(word[-1])
    for letter in reversed(word[:-1]):
        table = world.table_of(letter.lower())
        step = (back_of(table) if letter.isupper() else table)[step]
    return step


def refuted_by(node, tale, facts, strict=False, steps=None, tidy=False):
    """Return whether the tree is a refutation, as DOC.md words it, and a tidy one if asked."""
    words = tale.tail_list()
    told = [(comparison.first, comparison.second) for comparison in tale]
    sharp = [(comparison.first, comparison.second) for comparison in tale if comparison.sign == "<"]

    def walk(part, pairs):
        held = closure(words, facts, pairs, strict)
        if isinstance(part, Leaf):
            return (part.first, part.second) in sharp and (part.second, part.first) in held
        if isinstance(part, Case):
            one, other = part.first, part.second
            if one not in words or other not in words:
                return False
            if tidy and (one[0] == other[0] or (one, other) in held or (other, one) in held):
                return False
            return walk(part.left, [*pairs, (one, other)]) and walk(part.right, [*pairs, (other, one)])
        if tidy or not isinstance(part, Crowd) or steps is None:
            return False
        row = part.crowd
        if len(row) != steps + 1 or len(part.branches) != steps or not set(row) <= set(words):
            return False
        return all(walk(branch, [*pairs, (row[at + 1], row[at])])
                   for at, branch in enumerate(part.branches))

    return walk(node, told)


def rows_of(node):
    """Return the greatest number of inner nodes on a way through the tree."""
    if isinstance(node, Case):
        return 1 + max(rows_of(node.left), rows_of(node.right))
    if isinstance(node, Crowd):
        return 1 + max(map(rows_of, node.branches))
    return 0


def keeps_told(world, facts):
    """Return whether the tables of a world keep the facts, looked at table by table."""
    tables = {dial: world.table_of(dial) for dial in world.dial_list()}
    tables["1"] = list(range(world.steps))
    rising = all(table == sorted(table) and 0 <= table[0] and table[-1] < world.steps
                 and len(table) == world.steps for table in tables.values())
    pairs = all(one <= other for low, high in facts
                for one, other in zip(tables[low], tables[high]))
    return rising and pairs and all(tables[dial][0] == 0 for dial in facts.paired)


def bears(world, tale, facts):
    """Return whether a world is one of the facts, of just these words, and bears the tale."""
    words = tale.tail_list()
    values = {word: value_in(world, word) for word in words}
    just = (world.point_list() == points_of(words)
            and world.dial_list() == sorted(set(dials_of(words)) | set(facts.dial_list())))
    return (just and world.facts == facts and keeps_told(world, facts)
            and all(held_in(values, comparison) for comparison in tale))


def some_tales(seed, many, words_of, most, facts, most_told=4):
    """Return tales over words chosen from a list, with at most that many tails."""
    luck = random.Random(seed)
    tales = []
    while len(tales) < many:
        words = luck.sample(words_of, luck.randint(1, 4))
        tails = tail_set(words)
        if len(tails) <= most and len(tails) > 1:
            told = [Comparison(luck.choice(tails), luck.choice(["<", "<", "<="]), luck.choice(tails))
                    for _ in range(luck.randint(0, most_told))]
            tales.append(Tale.listed([one for one in told if one.first != one.second], words))
    return tales


PLAIN_WORDS = ["x", "y", "fx", "fy", "gx", "gy", "ffx", "fgx", "gfx", "fgy", "hx", "hfx", "fffx"]
PAIRED_WORDS = ["x", "y", "ax", "ay", "Ax", "Ay", "aAx", "Aax", "fx", "fax", "Afx", "fAx", "aax"]
PLAIN_FACTS = [Facts(), Facts(("f", "g")), Facts(("1", "f")), Facts(("f", "1")),
               Facts(("f", "1"), ("1", "g")), Facts(("f", "g"), ("g", "f"))]
PAIRED_FACTS = [Facts(paired="a"), Facts(("1", "a"), paired="a"), Facts(("a", "1"), paired="a"),
                Facts(("f", "1"), ("1", "a"), paired="a")]


def tales_with_facts(seed, many, most, most_told=4):
    """Return pairs of a tale and facts: plain ones first, then those with paired dials."""
    rows = []
    for kinds, words in ((PLAIN_FACTS, PLAIN_WORDS), (PAIRED_FACTS, PAIRED_WORDS)):
        for at, facts in enumerate(kinds):
            rows.extend((tale, facts) for tale in
                        some_tales(seed + at, many, words, most, facts, most_told))
    return rows


def claim_holds(ranks, claim):
    """Return whether a claim holds for numbers of words."""
    return any(ranks[one] <= ranks[other] for label in claim.label_list()
               for above, below in [claim.side_of(label)] for one in above for other in below)


def some_claims(seed, many, words, most):
    """Return claims over words chosen from a list, with at most that many tails."""
    luck = random.Random(seed)
    claims = []
    while len(claims) < many:
        labels = luck.sample("uvwxyz", luck.randint(1, 3))
        rows = [(label, luck.sample(words, luck.randint(0, 2)), luck.sample(words, luck.randint(0, 2)))
                for label in labels]
        rows = [row for row in rows if row[1] or row[2]]
        if rows and len(tail_set([word for row in rows for word in row[1] + row[2]])) <= most:
            claims.append(Claim(rows))
    return claims


def claims_with_facts(seed, many, most):
    """Return pairs of a claim and facts: plain ones first, then those with paired dials."""
    rows = [(claim, facts) for at, facts in enumerate(PLAIN_FACTS)
            for claim in some_claims(seed + at, many, PLAIN_WORDS, most)]
    return rows + [(claim, facts) for at, facts in enumerate(PAIRED_FACTS)
                   for claim in some_claims(seed + 50 + at, many, PAIRED_WORDS, most)]


def some_term(luck, words, size):
    """Return a term over the words, joined and led by letters at random."""
    if size == 1:
        return word_term(luck.choice(words))
    cut = luck.randint(1, size - 1)
    left, right = some_term(luck, words, cut), some_term(luck, words, size - cut)
    return left & right if luck.random() < 0.5 else left | right


def term_value(ranks, term):
    """Return the value of a term for numbers of words, by its high rows told in DOC.md."""
    if isinstance(term, WordTerm):
        return ranks[term.word]
    sides = term_value(ranks, term.left), term_value(ranks, term.right)
    return min(sides) if isinstance(term, Lesser) else max(sides)


def some_worlds(seed, many, facts, dials, points):
    """Return worlds on two or three steps with these dials, those of the facts, and points."""
    luck = random.Random(seed)
    choices = [(steps, tables) for steps in (1, 2, 3) for tables in table_choices(facts, steps, dials)]
    return [World(steps, {point: luck.randrange(steps) for point in points}, tables, facts)
            for steps, tables in luck.choices(choices, k=many)]
