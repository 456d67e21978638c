import itertools
import unittest

from helpers import Maker, U, X, Y, Z, all_facts, made, plain_assignments, plain_row, plain_view_rows, pure
from wishshown import views as module
from wishshown.errors import BadRow, BadSign, BadSize, BadTerm, BadWidth, UnboundVariable, UnknownTable
from wishshown.views import (
    check_views, effect, is_kept, lost_rows, minimal_witnesses, rows_with, view_rows, witnesses,
)

SCHEMA = [("box", 2, 1), ("art", 1, None), ("wide", 4, None)]
BOX, ART = ("box", (X, Y)), ("art", (X,))
RULE = ((X,), [BOX], [])
NO_TERMS = [("var", 8), ("var", -1), ("var", True), ("var", False), ("var", None), ("var", "0"), ("var", 1.0),
            ("word", ""), ("word", "A"), ("word", 1), ("word", None), ("word", "a" * 13), ("word", ("a",)), ("ward", "a"),
            ("", 0), (0, "var"), (None, None), (["var"], 0), "a", "?0", 0, None, True, ("var",), ("word", "a", "b"), ()]
WRONG_ATOMS = [("x", (X,))]


def one(*rules):
    return [(1, list(rules))]


class Check(unittest.TestCase):
    def bad(self, error, views):
        with self.assertRaises(error):
            check_views(SCHEMA, views)

    def right(self, views):
        self.assertIsNone(pure(self, check_views, SCHEMA, views))

    def test_right_ones(self):
        self.right(one(RULE))
        self.right(one(RULE) * 4)
        self.right(one(RULE, RULE, RULE))
        self.right(one(((X,), [BOX, BOX, ART], [(X, "=", Y), (X, "!=", ("word", "a")), (("word", "a"), "=", Y)])))
        self.right([(4, [((X, X, ("word", "a"), ("word", "abcdefghijkl")), [BOX], [])])])
        self.right(one(((("word", "x"),), [("art", (("word", "y"),))], [])))
        self.right(one(((("var", 7),), [("art", (("var", 7),))], [])))

    def test_numbers_of_views(self):
        self.bad(BadSize, [])
        self.bad(BadSize, one(RULE) * 5)
        self.bad(BadSize, [(0, [])] * 5)

    def test_widths(self):
        for width in [0, 5, -1, True, False, None, "1", 1.0]:
            self.bad(BadWidth, [(width, [RULE])])
            self.bad(BadWidth, [(width, [])])

    def test_numbers_of_rules(self):
        self.bad(BadSize, one())
        self.bad(BadSize, one(RULE, RULE, RULE, RULE))
        self.bad(BadSize, one(*[((), [], [])] * 4))

    def test_numbers_of_atoms_and_conditions(self):
        self.bad(BadSize, one(((X,), [], [])))
        self.bad(BadSize, one(((X,), [BOX] * 4, [])))
        self.bad(BadSize, one(((X,), WRONG_ATOMS * 4, [])))
        self.bad(BadSize, one(((X,), [BOX], [(X, "=", Y)] * 4)))
        self.bad(BadSize, one(((X,), WRONG_ATOMS, [(X, "<", Y)] * 4)))

    def test_tables_of_atoms(self):
        for name in ["boxes", "", "BOX", None, 1, True, ["box"], ("box",), {}]:
            self.bad(UnknownTable, one(((X,), [(name, (X, Y))], [])))
            self.bad(UnknownTable, one(((X,), [BOX, (name, ())], [])))

    def test_widths_of_atoms(self):
        for terms in [(), (X,), (X, Y, Z)]:
            self.bad(BadRow, one(((X,), [("box", terms)], [])))
        self.bad(BadRow, one(((X,), [("box", (("var", 9),))], [])))

    def test_terms_of_atoms(self):
        for term in NO_TERMS:
            self.bad(BadTerm, one(((X,), [("box", (X, term))], [])))
            self.bad(BadTerm, one(((X,), [BOX, ("box", (term, X))], [])))

    def test_heads(self):
        for head in [(), (X, Y), (("var", 9), ("var", 9))]:
            self.bad(BadRow, one((head, [BOX], [])))
        self.bad(BadRow, [(2, [((X,), [BOX], [])])])
        for term in NO_TERMS:
            self.bad(BadTerm, one(((term,), [BOX], [])))

    def test_conditions(self):
        for sign in ["==", "<", "", " =", "!", None, True, 0, ["="], ("=",)]:
            self.bad(BadSign, one(((X,), [BOX], [(X, sign, Y)])))
        for term in NO_TERMS:
            self.bad(BadTerm, one(((X,), [BOX], [(term, "=", Y)])))
            self.bad(BadTerm, one(((X,), [BOX], [(X, "!=", Y), (X, "!=", term)])))

    def test_unbound_variables(self):
        self.bad(UnboundVariable, one(((Z,), [BOX], [])))
        self.bad(UnboundVariable, one(((X,), [BOX], [(X, "=", Z)])))
        self.bad(UnboundVariable, one(((X,), [BOX], [(Z, "!=", X)])))
        self.bad(UnboundVariable, one(((X,), [("art", (("word", "a"),))], [])))

    def test_hidden_variables(self):
        wide = ("wide", (X, Y, Z, U))
        self.right(one(((X,), [wide], [])))
        self.bad(BadSize, one(((("word", "a"),), [wide], [])))
        self.bad(BadSize, one(((X,), [wide, ("art", (("var", 4),))], [])))
        self.bad(BadSize, one(((("var", 4),), [wide, ("art", (("var", 4),))], [(X, "=", Y)])))
        self.right([(2, [((X, ("var", 4)), [wide, ("art", (("var", 4),))], [])])])

    def test_the_first_error_that_is_due_in_a_rule(self):
        wide = ("wide", (X, Y, Z, U))
        many = [wide, ("art", (("var", 4),))]
        steps = [
            (BadSize, ((("var", 9), X), [], [(X, "<", 0)])),
            (UnknownTable, ((("var", 9), X), [("x", (0, 0)), ("box", (0,))], [(X, "<", 0)])),
            (BadRow, ((0,), [("box", (0,)), ("x", ())], [(X, "<", 0)])),
            (BadTerm, ((0, 0), [("box", (0, X)), ("x", ())], [(X, "<", 0)])),
            (BadTerm, ((X, X), [("box", (0, X)), ("box", (X,))], [])),
            (BadRow, ((0, 0), many, [(X, "<", 0)])),
            (BadTerm, ((0,), many, [(X, "<", 0)])),
            (BadSign, ((("var", 5),), many, [(0, "<", 0)])),
            (BadTerm, ((("var", 5),), many, [(0, "=", X), (X, "<", X)])),
            (BadSign, ((("var", 5),), many, [(X, "=", X), (X, "<", 0), (0, "=", 0)])),
            (UnboundVariable, ((("var", 5),), many, [])),
            (UnboundVariable, ((X,), many, [(("var", 5), "=", X)])),
            (BadSize, ((X,), many, [])),
        ]
        for error, rule in steps:
            self.bad(error, one(rule))
            self.bad(error, one(RULE, rule, ((), [], [])))
            self.bad(error, one(RULE) + one(rule) + [(9, [])])

    def test_the_first_error_that_is_due_between_views(self):
        self.bad(BadWidth, one(RULE) + [(5, [])] + one(((), [], [])))
        self.bad(BadSize, one() + [(5, [])])
        self.bad(UnboundVariable, one(((Z,), [BOX], [])) + [(0, [])])


FACTS = [("box", ("a", "red")), ("box", ("b", "blue")), ("box", ("c", "red")), ("art", ("blue",)), ("art", ("red",))]
# The red row has witnesses of both rules, two of them with a fact that two atoms make.
VIEW = (1, [((Y,), [BOX, ("art", (Y,))], []), ((X,), [("art", (X,)), ("art", (X,))], [(X, "!=", ("word", "blue"))])])


class Rows(unittest.TestCase):
    def test_rows(self):
        self.assertEqual(pure(self, view_rows, FACTS, VIEW), [("blue",), ("red",)])
        self.assertEqual(view_rows(FACTS[:4], VIEW), [("blue",)])
        self.assertEqual(view_rows([], VIEW), [])

    def test_witnesses(self):
        a, b, c, blue, red = FACTS
        self.assertEqual(pure(self, witnesses, FACTS, VIEW, ("red",)), [[a, red], [c, red], [red]])
        self.assertEqual(witnesses(FACTS, VIEW, ("blue",)), [[b, blue]])
        self.assertEqual(witnesses(FACTS, VIEW, ("green",)), [])
        self.assertEqual(witnesses([], VIEW, ("red",)), [])

    def test_minimal_witnesses(self):
        a, b, c, blue, red = FACTS
        self.assertEqual(pure(self, minimal_witnesses, FACTS, VIEW, ("red",)), [[red]])
        self.assertEqual(minimal_witnesses(FACTS, VIEW, ("blue",)), [[b, blue]])
        self.assertEqual(minimal_witnesses(FACTS, VIEW, ("green",)), [])
        first = (1, VIEW[1][:1])
        self.assertEqual(minimal_witnesses(FACTS, first, ("red",)), [[a, red], [c, red]])

    def test_the_order_of_witnesses_is_that_of_the_places(self):
        facts = [("t", (word,)) for word in "abc"]
        view = (1, [((("word", "x"),), [("t", (X,)), ("t", (Y,)), ("t", (Z,))], [])])
        a, b, c = facts
        self.assertEqual(witnesses(facts, view, ("x",)), [[a], [a, b], [a, b, c], [a, c], [b], [b, c], [c]])
        self.assertEqual(minimal_witnesses(facts, view, ("x",)), [[a], [b], [c]])

    def test_the_example(self):
        facts = [("box", ("a", "red")), ("box", ("b", "red")), ("tag", ("red",))]
        view = (1, [((Y,), [("box", (X, Y)), ("tag", (Y,))], [])])
        self.assertEqual(witnesses(facts, view, ("red",)), [[facts[0], facts[2]], [facts[1], facts[2]]])

    def test_rows_with(self):
        a, b, c, blue, red = FACTS
        self.assertEqual(pure(self, rows_with, FACTS, VIEW, red), [("red",)])
        self.assertEqual(rows_with(FACTS, VIEW, b), [("blue",)])
        both = (1, [((X,), [("box", (X, Y)), ("box", (Z, Y))], [])])
        self.assertEqual(rows_with(FACTS, both, a), [("a",), ("c",)])
        self.assertEqual(rows_with(FACTS, both, red), [])
        self.assertEqual(rows_with(FACTS, VIEW, ("art", ("green",))), [])
        self.assertEqual(rows_with(FACTS[:4], VIEW, red), [])
        self.assertEqual(rows_with([], VIEW, red), [])

    def test_is_kept(self):
        a, b, c, blue, red = FACTS
        for row, deleted, told in [
            (("red",), [], True), (("red",), [a], True), (("red",), [c, a, c, b], True), (("red",), [red], False),
            (("red",), [red, a, red], False), (("blue",), [b], False), (("blue",), [("box", ("b", "red"))], True),
            (("green",), [], False), (("green",), [("art", ("x",))], False),
        ]:
            self.assertIs(pure(self, is_kept, FACTS, VIEW, row, deleted=deleted), told)

    def test_lost_rows(self):
        a, b, c, blue, red = FACTS
        for deleted, told in [
            ([], []), ([a, c], []), ([red], [("red",)]), ([red, b, red], [("blue",), ("red",)]),
            ([("art", ("x",)), blue, a], [("blue",)]),
        ]:
            self.assertEqual(pure(self, lost_rows, FACTS, VIEW, deleted=deleted), told)

    def test_effect(self):
        a, b, c, blue, red = FACTS
        green, d = ("art", ("green",)), ("box", ("d", "green"))
        self.assertEqual(pure(self, effect, SCHEMA, FACTS, VIEW, ([red], [d, green])), ([("red",)], [("green",)]))
        self.assertEqual(effect(SCHEMA, FACTS, VIEW, ([], [])), ([], []))
        self.assertEqual(effect(SCHEMA, FACTS, VIEW, (FACTS, [])), ([("blue",), ("red",)], []))
        self.assertEqual(effect(SCHEMA, [], VIEW, ([], FACTS)), ([], [("blue",), ("red",)]))

    def test_effect_where_the_keys_do_not_hold(self):
        view = (2, [((X, Y), [BOX], [])])
        self.assertEqual(effect(SCHEMA, FACTS, view, ([], [("box", ("a", "blue"))])), ([], [("a", "blue")]))


class MadeData(unittest.TestCase):
    def test_witnesses(self):
        several = 0
        for seed in range(200):
            maker = Maker(seed)
            schema = maker.schema()
            words = ["a", "b", "c"]
            facts = maker.facts(schema, words, 10)
            view = maker.view(schema, words)
            self.assertIsNone(check_views(schema, [view]))
            rows = plain_view_rows(facts, view)
            self.assertEqual(view_rows(facts, view), rows)
            places = {}
            for rule in view[1]:
                for each in plain_assignments(facts, rule):
                    found = sorted({facts.index(made(atom, dict(each))) for atom in rule[1]})
                    places.setdefault(plain_row(rule, each), set()).add(tuple(found))
            for row in rows:
                told = [[facts[place] for place in found] for found in sorted(places[row])]
                self.assertEqual(witnesses(facts, view, row), told)
                least = [one for one in told if all(set(other) - set(one) for other in told if other != one)]
                self.assertEqual(minimal_witnesses(facts, view, row), least)
                several += len(least) < len(told)
            for fact in all_facts(schema, words):
                told = [row for row in rows if any(fact in one for one in witnesses(facts, view, row))]
                self.assertEqual(rows_with(facts, view, fact), told)
        self.assertGreater(several, 10)

    def test_kept_and_lost_rows_and_effects(self):
        for seed in range(200):
            maker = Maker(seed)
            schema = maker.schema()
            words = ["a", "b", "c"]
            facts = maker.facts(schema, words, 10)
            view = maker.view(schema, words)
            rows = plain_view_rows(facts, view)
            deleted = maker.random.choices(all_facts(schema, words), k=4)
            kept = [row for row in rows if any(not set(one) & set(deleted) for one in witnesses(facts, view, row))]
            for row in itertools.product(words, repeat=view[0]):
                self.assertIs(is_kept(facts, view, row, deleted=deleted), row in kept)
            self.assertEqual(lost_rows(facts, view, deleted=deleted), [row for row in rows if row not in kept])
            change = maker.change(schema, facts, words, 4)
            end = plain_view_rows(sorted(set(facts) - set(change[0]) | set(change[1])), view)
            self.assertEqual(effect(schema, facts, view, change),
                             ([row for row in rows if row not in end], [row for row in end if row not in rows]))


class Interface(unittest.TestCase):
    def test_the_functions_are_defined_in_this_file(self):
        for function in [check_views, view_rows, witnesses, minimal_witnesses, rows_with, is_kept, lost_rows, effect]:
            self.assertEqual(function.__module__, module.__name__)

    def test_the_names_of_the_arguments(self):
        a = FACTS[0]
        self.assertIsNone(check_views(schema=SCHEMA, views=[VIEW]))
        self.assertEqual(view_rows(database=[], view=VIEW), [])
        self.assertEqual(witnesses(database=[], view=VIEW, row=("a",)), [])
        self.assertEqual(minimal_witnesses(database=[], view=VIEW, row=("a",)), [])
        self.assertEqual(rows_with(database=[], view=VIEW, fact=a), [])
        self.assertFalse(is_kept(database=[], view=VIEW, row=("a",), deleted=[]))
        self.assertEqual(lost_rows(database=[], view=VIEW, deleted=[]), [])
        self.assertEqual(effect(schema=SCHEMA, database=[], view=VIEW, change=([], [])), ([], []))
        with self.assertRaises(TypeError):
            is_kept([], VIEW, ("a",), [])
        with self.assertRaises(TypeError):
            lost_rows([], VIEW, [])
