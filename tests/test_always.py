import itertools
import unittest

from helpers import ANN, U, X, Y, Z, Maker, plain_assignments, plain_closure, plain_rule, pure
from wishshown import always
from wishshown.always import closure, facts_of, is_plain, removal_place, remove_row
from wishshown.errors import NotPlain, NotRemovable, RowNotThere
from wishshown.joins import rule_rows
from wishshown.tables import after, ascending, keys_hold
from wishshown.wishes import does


class IsPlain(unittest.TestCase):
    def test_plain_rules(self):
        for rule in [((X, Y), [("pet", (X, Y)), ("kind", (Y,))], []), ((X,), [("kind", (X,))], []),
                     ((Y, X, Y), [("pet", (X, Y))], []), ((X, ANN), [("pet", (X, ANN))], []),
                     ((ANN,), [("kind", (ANN,))], []), ((X, Y, Z), [("a", (X, Y)), ("b", (Y, Z)), ("c", (Z, X))], []),
                     ((X,), [("pet", (X, X)), ("kind", (X,))], [])]:
            self.assertIs(pure(self, is_plain, rule), True, rule)

    def test_a_condition(self):
        for condition in [(X, "!=", Y), (X, "=", Y), (X, "=", X), (ANN, "=", ANN), (ANN, "!=", X)]:
            self.assertIs(pure(self, is_plain, ((X, Y), [("pet", (X, Y))], [condition])), False, condition)

    def test_a_table_that_stands_twice(self):
        self.assertIs(pure(self, is_plain, ((X, Y), [("pet", (X, Y)), ("pet", (Y, X))], [])), False)
        self.assertIs(is_plain(((X, Y), [("pet", (X, Y)), ("kind", (X,)), ("pet", (X, Y))], [])), False)
        self.assertIs(is_plain(((X,), [("kind", (X,)), ("kind", (X,))], [])), False)

    def test_a_variable_that_does_not_stand_in_the_head(self):
        self.assertIs(pure(self, is_plain, ((X,), [("pet", (X, Y))], [])), False)
        self.assertIs(is_plain(((Y, Y), [("pet", (X, Y))], [])), False)
        self.assertIs(is_plain(((X, Z), [("pet", (X, Y)), ("kind", (Z,))], [])), False)
        self.assertIs(is_plain(((ANN,), [("kind", (X,))], [])), False)


class FactsOf(unittest.TestCase):
    RULE = ((X, Y), [("pet", (X, Y)), ("kind", (Y,))], [])

    def test_the_examples(self):
        self.assertEqual(pure(self, facts_of, self.RULE, ("ada", "cat")), [("pet", ("ada", "cat")), ("kind", ("cat",))])
        self.assertIsNone(pure(self, facts_of, ((X, X), [("kind", (X,))], []), ("cat", "dog")))

    def test_a_row_that_is_too_long_or_too_short(self):
        for row in [(), ("ada",), ("ada", "cat", "cat"), ("ada", "cat", "cat", "x", "y")]:
            self.assertIsNone(pure(self, facts_of, self.RULE, row))

    def test_words_of_the_head(self):
        rule = ((ANN, X), [("pet", (X, ANN)), ("kind", (ANN,))], [])
        self.assertEqual(pure(self, facts_of, rule, ("ann", "cat")), [("pet", ("cat", "ann")), ("kind", ("ann",))])
        self.assertIsNone(pure(self, facts_of, rule, ("bea", "cat")))
        self.assertEqual(pure(self, facts_of, ((ANN,), [("kind", (ANN,))], []), ("ann",)), [("kind", ("ann",))])
        self.assertIsNone(facts_of(((ANN,), [("kind", (ANN,))], []), ("cat",)))

    def test_a_variable_that_stands_twice(self):
        rule = ((X, Y, X), [("kind", (Y,)), ("pet", (X, Y))], [])
        self.assertEqual(pure(self, facts_of, rule, ("a", "b", "a")), [("kind", ("b",)), ("pet", ("a", "b"))])
        self.assertIsNone(pure(self, facts_of, rule, ("a", "b", "b")))
        self.assertIsNone(facts_of(rule, ("a", "a", "b")))

    def test_atoms_that_make_equal_rows(self):
        rule = ((X,), [("kind", (X,)), ("pet", (X, X)), ("dog", (X,))], [])
        self.assertEqual(facts_of(rule, ("a",)), [("kind", ("a",)), ("pet", ("a", "a")), ("dog", ("a",))])

    def test_made_rules(self):
        for seed in range(150):
            maker = Maker(seed)
            schema = maker.schema()
            rule = plain_rule(maker, schema)
            facts = maker.facts(schema, ["a", "b", "ann"], 8)
            rows = rule_rows(facts, rule)
            for row in itertools.product(["a", "b", "ann"], repeat=len(rule[0])):
                found = facts_of(rule, row)
                self.assertIs(row in rows, found is not None and all(fact in facts for fact in found))
                if row in rows:
                    assignment = plain_assignments(ascending(schema, found), rule)
                    self.assertEqual(len(assignment), 1, "there is no other witness")


class Closure(unittest.TestCase):
    SCHEMA = [("owner", 2, 1), ("pet", 2, 1)]
    RULE = ((X, Y, Z), [("pet", (X, Y)), ("owner", (Y, Z))], [])

    def test_the_examples(self):
        self.assertEqual(pure(self, closure, self.SCHEMA, self.RULE, [0]), [0, 1, 2])
        self.assertEqual(pure(self, closure, self.SCHEMA, self.RULE, [1]), [1, 2])

    def test_any_order_and_several_times(self):
        for variables, told in [([], []), ([2], [2]), ([2, 0, 2], [0, 1, 2]), ([2, 1, 1, 2], [1, 2]), ([2, 2], [2]),
                                ([2, 1, 0], [0, 1, 2])]:
            self.assertEqual(pure(self, closure, self.SCHEMA, self.RULE, variables), told)

    def test_no_keys(self):
        schema = [("owner", 2, None), ("pet", 2, None)]
        for variables in [[], [0], [1], [0, 2], [0, 1, 2]]:
            self.assertEqual(pure(self, closure, schema, self.RULE, variables), variables)
        self.assertEqual(closure([("owner", 2, 1), ("pet", 2, None)], self.RULE, [0]), [0])
        self.assertEqual(closure([("owner", 2, 1), ("pet", 2, None)], self.RULE, [1]), [1, 2])

    def test_keys_of_several_columns(self):
        rule = ((X, Y, Z, U), [("deal", (X, Y, Z)), ("pet", (Z, U))], [])
        schema = [("deal", 3, 2), ("pet", 2, 2)]
        for variables, told in [([0], [0]), ([1], [1]), ([0, 1], [0, 1, 2]), ([0, 2], [0, 2]), ([0, 1, 3], [0, 1, 2, 3]),
                                ([2, 3], [2, 3])]:
            self.assertEqual(pure(self, closure, schema, rule, variables), told)
        schema = [("deal", 3, 2), ("pet", 2, 1)]
        self.assertEqual(closure(schema, rule, [1, 0]), [0, 1, 2, 3])
        schema = [("deal", 3, 3), ("pet", 2, 1)]
        self.assertEqual(closure(schema, rule, [1, 0]), [0, 1])

    def test_words_in_the_key_columns(self):
        rule = ((X, Y, Z), [("pet", (ANN, X)), ("deal", (Y, ANN, Z))], [])
        self.assertEqual(pure(self, closure, [("pet", 2, 1), ("deal", 3, 2)], rule, []), [0])
        self.assertEqual(closure([("pet", 2, 1), ("deal", 3, 2)], rule, [1]), [0, 1, 2])
        self.assertEqual(closure([("pet", 2, 1), ("deal", 3, None)], rule, [2]), [0, 2])
        self.assertEqual(closure([("pet", 2, 2), ("deal", 3, 1)], rule, [2]), [2])
        self.assertEqual(closure([("pet", 2, None), ("deal", 3, 1)], rule, []), [])

    def test_a_long_chain_in_any_order_of_the_atoms(self):
        atoms = [("c", (Z, U)), ("b", (Y, Z)), ("a", (X, Y))]
        schema = [("a", 2, 1), ("b", 2, 1), ("c", 2, 1)]
        for order in itertools.permutations(atoms):
            self.assertEqual(closure(schema, ((X, Y, Z, U), list(order), []), [0]), [0, 1, 2, 3])
            self.assertEqual(closure(schema, ((X, Y, Z, U), list(order), []), [1]), [1, 2, 3])

    def test_made_rules(self):
        for seed in range(200):
            maker = Maker(seed)
            schema = maker.schema()
            rule = plain_rule(maker, schema)
            variables = sorted({n for kind, n in rule[0] if kind == "var"})
            for count in range(len(variables) + 1):
                for some in itertools.combinations(variables, count):
                    self.assertEqual(closure(schema, rule, list(some)), plain_closure(schema, rule, some))


class RemovalPlace(unittest.TestCase):
    def test_the_first_atom_a_later_one_and_none(self):
        rule = ((X, Y, Z), [("pet", (X, Y)), ("owner", (Y, Z))], [])
        for schema, place in [([("owner", 2, 1), ("pet", 2, 1)], 0), ([("owner", 2, 1), ("pet", 2, None)], 0),
                              ([("owner", 2, None), ("pet", 2, None)], None), ([("owner", 2, 2), ("pet", 2, 2)], None)]:
            self.assertEqual(pure(self, removal_place, schema, rule), place)
        rule = ((X, Y, Z), [("owner", (Y, Z)), ("pet", (X, Y))], [])
        for schema, place in [([("owner", 2, 1), ("pet", 2, 1)], 1), ([("owner", 2, 1), ("pet", 2, None)], 1)]:
            self.assertEqual(pure(self, removal_place, schema, rule), place)
        rule = ((X, Y, Z, U), [("a", (X, Y)), ("b", (Y, Z)), ("c", (U, X))], [])
        self.assertEqual(removal_place([("a", 2, 1), ("b", 2, 1), ("c", 2, 1)], rule), 2)
        self.assertIsNone(removal_place([("a", 2, None), ("b", 2, 1), ("c", 2, 1)], rule))

    def test_one_atom(self):
        for rule in [((X, Y), [("pet", (X, Y))], []), ((ANN,), [("pet", (ANN, ANN))], [])]:
            for key in [None, 1, 2]:
                self.assertEqual(pure(self, removal_place, [("pet", 2, key)], rule), 0)

    def test_not_plain(self):
        schema = [("pet", 2, 1)]
        for rule in [((X, Y), [("pet", (X, Y))], [(X, "=", Y)]), ((X, Y), [("pet", (X, Y)), ("pet", (Y, X))], []),
                     ((X,), [("pet", (X, Y))], [])]:
            self.assertRaises(NotPlain, removal_place, schema, rule)


class RemoveRow(unittest.TestCase):
    SCHEMA = [("owner", 2, 1), ("pet", 2, None)]
    RULE = ((X, Y, Z), [("owner", (Y, Z)), ("pet", (X, Y))], [])
    FACTS = [("owner", ("cat", "ada")), ("owner", ("dog", "ada")), ("pet", ("a", "cat")), ("pet", ("b", "cat"))]

    def test_the_change_that_is_due(self):
        row = ("a", "cat", "ada")
        change = pure(self, remove_row, self.SCHEMA, self.FACTS, self.RULE, row=row)
        self.assertEqual(change, ([("pet", ("a", "cat"))], []))
        told = (self.SCHEMA, self.FACTS, [(3, [self.RULE])], ([(0, "remove", row)], [(True, True)] * 2))
        self.assertTrue(does(told, change))

    def test_a_row_that_is_not_there(self):
        for row in [("a", "dog", "ada"), ("q", "cat", "ada"), ("a", "cat", "bo"), ("a", "cat"), (),
                    ("a", "cat", "ada", "ada")]:
            with self.assertRaises(RowNotThere):
                remove_row(self.SCHEMA, self.FACTS, self.RULE, row=row)
        with self.assertRaises(RowNotThere):
            remove_row(self.SCHEMA, [], self.RULE, row=("a", "cat", "ada"))
        with self.assertRaises(RowNotThere):
            remove_row([("kind", 1, None)], [("kind", ("cat",))], ((X, X), [("kind", (X,))], []), row=("cat", "dog"))

    def test_the_order_of_the_errors(self):
        schema = [("owner", 2, None), ("pet", 2, None)]
        with self.assertRaises(NotPlain):
            remove_row(schema, self.FACTS, (self.RULE[0], self.RULE[1], [(X, "!=", Y)]), row=("q",))
        with self.assertRaises(NotRemovable):
            remove_row(schema, self.FACTS, self.RULE, row=("q",))
        with self.assertRaises(NotRemovable):
            remove_row(schema, self.FACTS, self.RULE, row=("a", "cat", "ada"))
        with self.assertRaises(RowNotThere):
            remove_row(self.SCHEMA, self.FACTS, self.RULE, row=("q",))

    def test_nothing_is_changed(self):
        facts = list(self.FACTS)
        rule = (self.RULE[0], list(self.RULE[1]), [])
        with self.assertRaises(RowNotThere):
            remove_row(self.SCHEMA, facts, rule, row=("q",))
        self.assertEqual((facts, rule), (self.FACTS, self.RULE))

    def test_made_databases(self):
        count = 0
        for seed in range(300):
            maker = Maker(seed)
            schema = maker.schema()
            rule = plain_rule(maker, schema)
            place = removal_place(schema, rule)
            facts = maker.holding(schema, ["a", "b", "ann"], 10)
            rows = rule_rows(facts, rule)
            for row in rows if place is not None else []:
                change = remove_row(schema, facts, rule, row=row)
                self.assertEqual(change, ([facts_of(rule, row)[place]], []))
                end = after(schema, facts, change)
                self.assertEqual(rule_rows(end, rule), [each for each in rows if each != row])
                self.assertTrue(keys_hold(schema, end))
                count += 1
        self.assertGreater(count, 100)


class Interface(unittest.TestCase):
    def test_the_functions_are_defined_in_this_file(self):
        for function in [is_plain, facts_of, closure, removal_place, remove_row]:
            self.assertEqual(function.__module__, always.__name__)

    def test_the_names_of_the_arguments(self):
        schema, rule = [("kind", 1, None)], ((X,), [("kind", (X,))], [])
        self.assertIs(is_plain(rule=rule), True)
        self.assertEqual(facts_of(rule=rule, row=("a",)), [("kind", ("a",))])
        self.assertEqual(closure(schema=schema, rule=rule, variables=[0]), [0])
        self.assertEqual(removal_place(schema=schema, rule=rule), 0)
        facts = [("kind", ("a",))]
        self.assertEqual(remove_row(schema=schema, database=facts, rule=rule, row=("a",)), (facts, []))
        self.assertRaises(TypeError, lambda: remove_row(schema, facts, rule, ("a",)))
