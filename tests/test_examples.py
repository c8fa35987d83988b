"""The examples of DOC.md, as they stand there."""

import unittest

EXAMPLES = """
>>> from unseendials.placing import ranking_world
>>> from unseendials.rankings import Ranking
>>> world = ranking_world(Ranking([['x'], ['fx'], ['ffx']]), steps=5, at=[0, 2, 3], greatest=True)
>>> [world.table_of('f'), world('ffx')]
[[2, 3, 3, 4, 4], 3]

>>> from unseendials.listings import walk_rankings
>>> rows = list(walk_rankings(['ffx']))
>>> [rows[0].rank_list(), rows[1].rank_list(), rows[2].rank_list(), rows[3].rank_list(), rows[4].rank_list()]
[[0, 0, 0], [0, 1, 1], [0, 1, 2], [1, 0, 0], [2, 1, 0]]

>>> from unseendials.facts import Facts
>>> from unseendials.rows import rows_on
>>> [rows_on(['ffx'], None, 3), rows_on(['ffx'], Facts(('1', 'f')), 3)]
[11, 7]

>>> from unseendials.closings import Closing
>>> closing = Closing(['fx', 'fy'], None, [('x', 'y')])
>>> [closing.pair_list(), closing.reason_of('fx', 'fy')]
[[('x', 'y'), ('fx', 'fy')], ('rule', 1, 'f', 'f', ('x', 'y'))]

>>> from unseendials.comparisons import Tale, lt
>>> from unseendials.deciding import is_refutation
>>> from unseendials.trees import Case, Leaf
>>> tale = Tale(lt('fy', 'gx'), lt('gy', 'fx'), lt('hx', 'ky'), lt('kx', 'hy'))
>>> is_refutation(Case('x', 'y', Leaf('gy', 'fx'), Leaf('kx', 'hy')), tale)
True

>>> from unseendials.comparisons import Tale, lt
>>> from unseendials.leastchain import least_chain
>>> least_chain(Tale(lt('fx', 'ffx')))
3

>>> from unseendials.comparisons import Tale, lt
>>> from unseendials.following import consequences
>>> rows = consequences(Tale(lt('fx', 'fy')))
>>> [len(rows), rows[0].written(), rows[1].written()]
[2, 'x < y', 'fx < fy']

>>> from unseendials.cuts import walk_cuts
>>> from unseendials.facts import Facts
>>> list(walk_cuts(['x', 'fx'], Facts(('1', 'f'))))
[[], ['fx'], ['x', 'fx']]

>>> from unseendials.choices import count_terms
>>> count_terms(['x', 'y', 'fx', 'fy'])
82

>>> from unseendials.facts import Facts
>>> from unseendials.terms import word_term
>>> from unseendials.thinning import thin_rows
>>> term = word_term('y') | (word_term('x') & word_term('fx'))
>>> thin_rows(term, Facts(('1', 'f')))
[['y'], ['x']]

>>> from unseendials.claims import Claim
>>> from unseendials.cutworlds import failing_numbers
>>> from unseendials.worlds import World
>>> claim = Claim.named(u=(['fgx'], ['y', 'gx']), v=(['y'], ['fx']))
>>> world = World(4, {'x': 0, 'y': 2}, {'f': [0, 3, 3, 3], 'g': [1, 1, 1, 1]})
>>> failing_numbers(claim, world)
{'u': 3, 'v': 2}

>>> from unseendials.claims import Claim
>>> from unseendials.headorders import head_order
>>> head_order(Claim.saying(['fx'], ['x']))
[[('u', '')], [('u', 'f')]]

>>> from unseendials.knots import knot_world
>>> from unseendials.rankings import Ranking
>>> from unseendials.refining import refine
>>> parted = refine(Ranking([['x'], ['y'], ['fx', 'fy']]))
>>> world = knot_world(parted)
>>> [list(parted), world.knot_table('f'), world('ffx'), world.taken_back('f', (3, 1))]
[[('x',), ('y',), ('fx',), ('fy',)], [10, 15, 16, 17], (16, 5), (1, 1)]

>>> from unseendials.comparisons import Tale, le, lt
>>> from unseendials.deciding import possible
>>> from unseendials.strictly import strictly_follows, strictly_possible
>>> tale = Tale(le('fx', 'fy'), lt('y', 'x'))
>>> [possible(tale), strictly_possible(tale), strictly_follows(Tale(le('fx', 'fy')), le('x', 'y'))]
[True, False, True]

>>> from unseendials.blocks import block_world
>>> from unseendials.claims import Claim
>>> from unseendials.codes import code_three
>>> from unseendials.worlds import World
>>> three = code_three(Claim.saying(['fx'], ['x']))
>>> world = block_world(World(2, {'x': 0}, {'f': [1, 1]}), three)
>>> [three.told_letters, world.table_of('a'), world.table_of('b'), world.table_of('c'), world('cbax')]
[(('f', 'cba'),), [0, 3, 4, 5, 5, 5], [0, 1, 2, 4, 4, 5], [0, 0, 0, 1, 2, 5], 2]

>>> from unseendials.stacks import stack, sub_world
>>> from unseendials.worlds import World
>>> whole, firsts = stack(World(2, {}, {'f': [1, 1]}), World(3, {}, {'f': [0, 0, 2]}))
>>> part = sub_world(whole, [1, 2, 4])
>>> [whole.table_of('f'), firsts, part.table_of('f')]
[[1, 1, 2, 2, 4], [0, 2], [0, 1, 2]]
>>> sub_world(whole, [0, 3])
raises BadStand(at=(0, 3))

>>> from unseendials.sketches import Sketch
>>> from unseendials.readings import shown_steps
>>> sketch = Sketch(4, places={'x': 1})
>>> sketch.read('g', 0, 1)
>>> sketch.read('g', 2, 2)
>>> sketch.read('f', 1, 1)
>>> sketch.read('f', 2, 3)
>>> shown_steps('fgx', sketch)
[1, 3]

>>> from unseendials.worlds import World
>>> from unseendials.runsof import fewest_readings
>>> world = World(4, {'x': 1}, {'f': [2, 2, 2, 2], 'g': [0, 1, 1, 2], 'h': [0, 0, 3, 3]})
>>> fewest_readings('fghx', world)
[('f', 0, 2), ('f', 3, 2)]

>>> from unseendials.claims import Claim
>>> from unseendials.comparisons import le
>>> from unseendials.desk import Desk
>>> from unseendials.facts import Facts
>>> desk = Desk(Facts(('1', 'f')))
>>> desk.tell(le('x', 'fx'))
>>> found = desk.deciders(Claim.of(le('x', 'y')))
>>> [len(found), found[0].written(), found[1].written()]
[2, 'x <= y', 'fx <= y']

>>> from unseendials.facts import Facts
>>> from unseendials.worlds import World
>>> World(3, {}, {'a': [0, 1, 1], 'b': [0, 0, 2]}, Facts(('a', 'b')))
raises BrokenFact(low='a', high='b', at=1)

>>> from unseendials.rowforms import high_rows, low_rows
>>> from unseendials.terms import word_term
>>> from unseendials.worlds import World
>>> term = (word_term('x') | word_term('gx')).through('f') & word_term('y')
>>> world = World(4, {'x': 1, 'y': 2}, {'f': [0, 2, 2, 3], 'g': [1, 1, 3, 3]})
>>> [term.written(), term.value_in(world), high_rows(term), low_rows(term)]
['(f(x | gx) & y)', 2, [['y', 'fx'], ['y', 'fgx']], [['y'], ['fx', 'fgx']]]

>>> from unseendials.completions import greatest_world, least_world, stretch
>>> from unseendials.counting import count_tables
>>> from unseendials.facts import Facts
>>> from unseendials.sketches import Sketch
>>> sketch = Sketch(5, Facts(('1', 'f')))
>>> sketch.read('f', 1, 1)
>>> sketch.read('f', 3, 4)
>>> tables = [least_world(sketch).table_of('f'), greatest_world(sketch).table_of('f')]
>>> [tables, stretch(sketch, 'f', 2), count_tables(sketch, 'f')]
[[[0, 1, 2, 4, 4], [1, 1, 4, 4, 4]], (2, 4), 6]

>>> from unseendials.completions import stretch
>>> from unseendials.facts import Facts
>>> from unseendials.sketches import Sketch
>>> sketch = Sketch(4, Facts(paired='a'))
>>> sketch.read('A', 1, 2)
>>> [stretch(sketch, 'A', 0), stretch(sketch, 'A', 2), stretch(sketch, 'a', 3)]
[(0, 2), (2, 3), (2, 3)]

>>> from unseendials.facts import Facts
>>> from unseendials.keeping import broken
>>> from unseendials.rankings import Ranking
>>> broken(Ranking([['Aax'], ['x'], ['ax']]), Facts(paired='a'))
(3, 'a', 'a', 'x', 'ax')

>>> from unseendials.comparisons import Tale, lt
>>> from unseendials.fewest import fewest_cases, standing
>>> tale = Tale(lt('ffx', 'fx'), lt('hx', 'hfx'))
>>> [fewest_cases(tale), standing(tale, height=0).height, standing(tale, height=1)]
[1, 0, None]

>>> from unseendials.forms import form
>>> from unseendials.terms import word_term
>>> form(word_term('fx'), ['x'])
raises NotRanked(word='fx')

>>> from unseendials.cutworlds import cut_world
>>> from unseendials.worlds import World
>>> world = World(4, {'x': 0}, {'f': [0, 3, 3, 3], 'g': [1, 1, 1, 1]})
>>> cut = cut_world(world, {'u': 3})
>>> [cut.place_of('u'), cut.table_of('f'), cut.table_of('g')]
[1, [0, 3, 3, 3, 4], [0, 0, 0, 4, 4]]

>>> from unseendials.facts import Facts
>>> from unseendials.terms import word_term
>>> from unseendials.turning import turn_term
>>> turn_term(word_term('ax') & word_term('Afy'), Facts(paired='a')).written()
'(Ax | afy)'
"""


def answer_of(line, names):
    """Return what an expression gives, written as DOC.md writes it, '' for a statement."""
    try:
        code = compile(line, "example", "eval")
    except SyntaxError:
        exec(line, names)
        return ""
    try:
        worth = eval(code, names)
    except ValueError as error:
        fields = ", ".join(f"{name}={field!r}" for name, field in vars(error).items())
        return f"raises {type(error).__name__}({fields})"
    return "" if worth is None else repr(worth)


class TestExamples(unittest.TestCase):

    def test_all(self):
        blocks = EXAMPLES.strip().split("\n\n")
        self.assertEqual(len(blocks), 28)
        for block in blocks:
            names = {}
            lines = block.split("\n") + [">>> None"]
            for line, behind in zip(lines, lines[1:]):
                if line.startswith(">>> "):
                    expected = "" if behind.startswith(">>> ") else behind
                    self.assertEqual(answer_of(line[4:], names), expected, line)


if __name__ == "__main__":
    unittest.main()
