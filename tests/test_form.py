"""The form of the package: rules of LANGUAGE.md, and the names of the interface."""

import importlib
import inspect
import pathlib
import unittest

from form_rules import faults_of

ROOT = pathlib.Path(__file__).resolve().parent.parent
FOLDER = ROOT / "unseendials"

FUNCTIONS = {
    "words": "is_word(text) heads(word) tails(word) first_letter(word) rest_of(word) point_of(word) "
             "in_order(words) tail_set(words) dials_of(words) points_of(words) partner(letter) "
             "replace_dials(word,heads)",
    "tables": "rising(table) back_table(table) threshold(table,least) put_on(outer,inner) "
              "lesser_table(one,other) greater_table(one,other) walk_tables(steps)",
    "terms": "word_term(word)",
    "rowforms": "high_rows(term) low_rows(term) term_of_rows(rows,*,high=True)",
    "made": "made_table(term,world) replaced_world(world,heads)",
    "completions": "least_world(sketch,dials=()) greatest_world(sketch,dials=()) "
                   "clamp(sketch,world) is_completion(sketch,world) stretch(sketch,letter,at)",
    "letters": "lies_below(facts,first,second) letter_against(facts,first,second)",
    "counting": "count_between(low,high) count_tables(sketch,dial) tables_on(steps) "
                "never_lower_on(steps) pairs_on(steps) grounded_on(steps)",
    "keeping": "broken(ranking,facts=None) keeps(ranking,facts=None)",
    "listings": "walk_rankings(words,facts=None) group_counts(words,facts=None)",
    "placing": "ranking_sketch(ranking,facts=None,*,steps=None,at=None) "
               "ranking_world(ranking,facts=None,*,steps=None,at=None,greatest=False)",
    "rows": "rows_on(words,facts,steps) row_count(counts,steps)",
    "comparisons": "le(p,q) lt(p,q)",
    "closings": "closing_of(tale,facts=None,*,strict=False)",
    "deciding": "decide(tale,facts=None) possible(tale,facts=None) "
                "is_refutation(node,tale,facts=None,*,steps=None,strict=False)",
    "fewest": "fewest_cases(tale,facts=None,*,strict=False) "
              "fewest_tree(tale,facts=None,*,strict=False) "
              "standing(tale,facts=None,*,height,strict=False)",
    "leastchain": "least_chain(tale,facts=None) chain_world(tale,facts=None) "
                  "chain_tree(tale,facts=None,*,steps)",
    "following": "follows(tale,comparison,facts=None) consequences(tale,facts=None)",
    "sureness": "failing_world(claim,facts=None) denial_tree(claim,facts=None) "
                "sure(claim,facts=None) term_below(s,t,facts=None) alike(s,t,facts=None) "
                "parting_world(s,t,facts=None)",
    "cuts": "walk_cuts(words,facts=None) is_cut(cut,words,facts=None) "
            "cut_witness(cut,words,facts=None) true_at(term,cut)",
    "forms": "form(term,words=None,facts=None) form_term(cuts) parting_cut(s,t,facts=None)",
    "choices": "walk_choices(words,facts=None) count_terms(words,facts=None) "
               "choice_term(choice,words) failing_counts(claim,facts=None)",
    "thinning": "thin_rows(term,facts=None)",
    "mirror": "backward_head(head,facts=None) mirror_claim(claim,facts=None) "
              "mirror_term(term,facts=None)",
    "cutworlds": "cut_world(world,numbers) point_numbers(world) failing_numbers(claim,world)",
    "turning": "turn_word(word,facts=None) turn_tale(tale,facts=None) turn_claim(claim,facts=None) "
               "turn_term(term,facts=None) turn_world(world)",
    "headorders": "head_order(claim,facts=None)",
    "strictness": "is_strict(ranking,facts=None) walk_strict(words,facts=None)",
    "refining": "refine(ranking,facts=None)",
    "knots": "knot_world(ranking,facts=None)",
    "strictly": "strictly_decide(tale,facts=None) strictly_possible(tale,facts=None) "
                "strictly_follows(tale,comparison,facts=None) strict_failing(claim,facts=None)",
    "codes": "code_points(claim,facts=None) code_labels(claim,facts=None) code_three(claim) "
             "code_two(claim)",
    "blocks": "points_world(world,coded) labels_world(world,claim,coded) block_world(world,coded) "
              "plain_world(world,coded,facts=None)",
    "twodials": "two_ranking(claim,knots_world)",
    "stacks": "stack(*worlds) stack_list(worlds) sub_world(world,chosen) "
              "one_for_all(claims,facts=None)",
    "readings": "least_value(term,sketch) greatest_value(term,sketch) walk_rows(words,sketch) "
                "shown_steps(word,sketch)",
    "weighing": "count_worlds(sketch,dials) count_holding(claim,sketch,dials)",
    "papers": "is_paper(entries,word,world) thin_paper(entries,word,world)",
    "runsof": "low_run(word,world,start) high_run(word,world,start) fewest_readings(word,world) "
              "floor_readings(word,world)",
    "trials": "what_if(desk,claim,*,room=None,undone=0,telling=())",
    "reports": "ranking_lines(ranking) rows_lines(counts,steps) desk_lines(desk)",
}
CLASSES = {
    ("facts", "Facts"): "__init__(self,*below,paired='') listed(pairs,paired='') "
                        "under(self,low,high) path(self,low,high) has_pair(self,letter) "
                        "dial_list(self) within(self,other) mirrored(self) turned(self) "
                        "__eq__ __or__ __len__ __iter__ __contains__ paired",
    ("worlds", "World"): "__init__(self,steps,places,tables,facts=None) "
                         "still(steps,places,*dials,facts=None) point_list(self) dial_list(self) "
                         "place_of(self,point) table_of(self,letter) head_table(self,head) "
                         "__call__(self,word) placed(self,places) moved(self,**places) "
                         "__and__ __or__ __eq__ steps facts",
    ("terms", "Term"): "word_list(self) point_list(self) written(self) value_in(self,world) "
                       "through(self,head) __call__(self,other) __and__ __or__ __eq__",
    ("terms", "WordTerm"): "__init__(self,word)",
    ("terms", "ThroughTerm"): "__init__(self,letter,inner)",
    ("terms", "PairTerm"): "__init__(self,left,right)",
    ("terms", "Lesser"): "__init__(self,left,right)",
    ("terms", "Greater"): "__init__(self,left,right)",
    ("sketches", "Sketch"): "__init__(self,steps,facts=None,*,places=None) "
                            "read(self,letter,at,shown) clash_of(self,letter,at,shown) "
                            "entry_list(self) twin(self) place_of(self,point) point_list(self) "
                            "__len__ __contains__ steps facts",
    ("rankings", "Ranking"): "__init__(self,groups) rank_of(self,word) below(self,p,q) "
                             "word_list(self) rank_list(self) only(self,words) top_cuts(self) "
                             "of_world(words,world) of_ranks(words,ranks) "
                             "__len__ __iter__ __contains__ __eq__",
    ("comparisons", "Comparison"): "__init__(self,first,sign,second) written(self) "
                                   "holds_in(self,world) __invert__ __eq__",
    ("comparisons", "Tale"): "__init__(self,*comparisons,words=()) listed(comparisons,words=()) "
                             "tail_list(self) told(self,comparison) without(self,at) "
                             "borne_by(self,world) __add__ __len__ __iter__",
    ("closings", "Closing"): "__init__(self,words,facts,weak,*,strict=False) holds(self,p,q) "
                             "pair_list(self) reason_of(self,p,q)",
    ("trees", "Node"): "",
    ("trees", "Leaf"): "__init__(self,first,second) in_a_row(self) leaf_list(self)",
    ("trees", "Case"): "__init__(self,first,second,left,right) in_a_row(self) leaf_list(self)",
    ("trees", "Crowd"): "__init__(self,crowd,branches) in_a_row(self) leaf_list(self)",
    ("fewest", "Standing"): "__init__(self,height,answers) answer_of(self,p,q)",
    ("setworlds", "SetWorld"): "__init__(self,tale,facts=None) set_of(self,word) "
                               "shown_by(self,dial,words) bears(self)",
    ("claims", "Claim"): "__init__(self,sayings) named(**sayings) saying(above,below,label='u') "
                         "of(*comparisons) label_list(self) word_list(self) point_list(self) "
                         "side_of(self,label) denial(self) holds_in(self,world) "
                         "__add__ __len__ __eq__",
    ("knots", "KnotWorld"): "__init__(self,knots,places,tables,facts=None) point_list(self) "
                            "dial_list(self) knot_of(self,point) knot_table(self,dial) "
                            "show(self,dial,number) taken_back(self,dial,number) "
                            "__call__(self,word) knots facts",
    ("codes", "Coded"): "__init__(self,kind,claim,told_letters)",
    ("answers", "Answer"): "__init__(self,verdict,told_by)",
    ("desk", "Desk"): "__init__(self,facts=None,*,strict=False) set_room(self,most) "
                      "tell(self,comparison) tell_list(self) ask(self,claim) "
                      "deciders(self,claim) bearer(self) undo(self) log_lines(self) "
                      "from_log(facts,lines,*,strict=False) facts strict room",
    ("trials", "Trial"): "__init__(self,desk) __enter__(self) __exit__",
}


def sources():
    return {path.name: path.read_text(encoding="utf-8") for path in sorted(FOLDER.glob("*.py"))}


def signature(call):
    return str(inspect.signature(call)).replace(" ", "")


class TestRules(unittest.TestCase):

    def test_no_faults(self):
        self.assertEqual(faults_of(sources()), [])

    def test_just_python_files(self):
        others = [path.name for path in FOLDER.iterdir() if path.suffix != ".py"]
        self.assertLessEqual(set(others), {"__pycache__"})
        self.assertTrue((FOLDER / "__init__.py").exists())
        self.assertLessEqual(len(sources()), 100)

    def test_faults_are_found(self):
        lines = {
            "L2": "from os import path", "L3": "print(1)", "L16": "import heapq",
            "L7 float": "def f(x):\n    return x * 1.5", "L7 op": "def f(x):\n    return x / 2",
            "L8": "def f(x):\n    return eval(x)", "L24": "def f(x):\n    y = set(x)\n    return y",
            "L25": "def f(x):\n    return x.encode()", "L20": "def f(x, y):\n    return x is y",
            "L23": "def f(x):\n    y = zip(x, x)\n    return y", "L4": "def f(x=[]):\n    return x",
            "L27": "def f(x):\n    return 'a%'", "L14": "# \u00e4",
            "L10": "def f(x):\n" + "    x += 1\n" * 40 + "    return x",
            "L28": "class A:\n    def __eq__(self, other):\n        x = other\n        return x",
            "L5": "class A:\n    def __hash__(self):\n        return 1",
            "L12": "def f(type):\n    return 1", "L18": "def f(x):\n    return x.nowhere",
            "L19": "def f(x):\n    raise x", "L22": "def f(x):\n    return sorted(a=x)",
        }
        for rule, text in lines.items():
            with self.subTest(rule=rule):
                faults = faults_of({"some.py": text})
                self.assertTrue(any(fault.startswith(rule) for fault in faults), faults)

    def test_rows_that_get_what_they_change(self):
        found = [
            "xs[at] += xs[at - n]", "xs[at - n] += xs[at]", "xs[at] |= xs[n]", "xs[0][1] += xs[1][0]",
            "self.xs[at] += self.xs[n]", "xs += xs", "xs += xs[at]", "xs[at] += xs", "xs += xs[1:]",
            "xs[at] += xs[n] if n else 0", "xs[at] += n or xs[n]", "xs.extend(xs)",
            "xs.extend(xs[at])", "xs[at].extend(xs[n])", "d.update(d)", "d.update(d[at])",
        ]
        free = [
            "xs[at] = xs[at] + xs[n]", "xs[at] += ys[at]", "xs[at] += 1", "xs += list(xs)",
            "xs[at] += ys[xs[n]]", "xs[at] -= xs[n]", "xs.extend(list(xs))", "xs.extend(ys[at])",
            "xs += [x + n for x in xs]", "d.update(dict(d))", "xs[at] += xs[n] * 1",
        ]
        for row in found + free:
            with self.subTest(row=row):
                told = faults_of({"some.py": f"def f(self, xs, ys, d, at, n):\n    {row}\n"})
                alike = [fault for fault in told if fault.startswith("L23 gets what it changes")]
                self.assertEqual(alike, ["L23 gets what it changes, line 2 (some.py)"]
                                 if row in found else [])


class TestInterface(unittest.TestCase):

    def test_functions(self):
        for name, told in FUNCTIONS.items():
            module = importlib.import_module(f"unseendials.{name}")
            for line in told.split():
                call = getattr(module, line.partition("(")[0])
                with self.subTest(name=name, line=line):
                    self.assertEqual(call.__name__ + signature(call), line)
                    self.assertEqual(call.__module__, module.__name__)

    def test_classes(self):
        for (name, kind), told in CLASSES.items():
            found = getattr(importlib.import_module(f"unseendials.{name}"), kind)
            self.assertEqual(found.__module__, f"unseendials.{name}")
            for line in told.split():
                with self.subTest(kind=kind, line=line):
                    part = line.partition("(")[0]
                    self.assertIn(part, vars(found))
                    if "(" in line:
                        self.assertEqual(part + signature(getattr(found, part)), line)
                    if part in ("steps", "facts", "paired", "knots", "strict", "room"):
                        self.assertIsInstance(vars(found)[part], property)


if __name__ == "__main__":
    unittest.main()
