import unittest

from helpers import ANN, U, X, Y, Z, Maker, plain_closure, plain_rule, pure
from wishshown import general
from wishshown.always import facts_of, is_plain, removal_place
from wishshown.errors import NotPlain, Removable
from wishshown.general import check_counterexample, counterexample
from wishshown.joins import rule_rows
from wishshown.searching import solve
from wishshown.tables import ascending, check_database

SCHEMA = [("like", 2, None), ("sell", 2, None)]
RULE = ((X, Y, Z), [("like", (X, Y)), ("sell", (Y, Z))], [])


def plain_twin(schema, rule, place):
    """The words of the twin of the atom at this place, as point 70 tells them."""
    own = [n for kind, n in rule[1][place][1] if kind == "var"]
    shared = plain_closure(schema, rule, own)
    return tuple(worth if kind == "word" else f"b{worth}" if worth in shared else f"t{place}v{worth}"
                 for kind, worth in rule[0])


class Counterexample(unittest.TestCase):
    def check(self, schema, rule):
        """Check what points 69 and 70 say of the answer."""
        database, row, twins = pure(self, counterexample, schema, rule)
        self.assertEqual(row, tuple(worth if kind == "word" else f"b{worth}" for kind, worth in rule[0]))
        self.assertEqual(twins, [plain_twin(schema, rule, place) for place in range(len(rule[1]))])
        self.assertEqual(database, ascending(schema, [fact for each in [row, *twins] for fact in facts_of(rule, each)]))
        check_database(schema, database)
        self.assertIs(pure(self, check_counterexample, schema, rule, database, row=row, twins=twins), True)
        wish = ([(0, "remove", row)], [(True, True)] * len(schema))
        self.assertIn(row, rule_rows(database, rule))
        self.assertIsNone(solve((schema, database, [(len(rule[0]), [rule])], wish)))
        return (database, row, twins)

    def test_the_example(self):
        database, row, twins = self.check(SCHEMA, RULE)
        self.assertEqual(database, [("like", ("b0", "b1")), ("like", ("t1v0", "b1")), ("sell", ("b1", "b2")),
                                    ("sell", ("b1", "t0v2"))])
        self.assertEqual(row, ("b0", "b1", "b2"))
        self.assertEqual(twins, [("b0", "b1", "t0v2"), ("t1v0", "b1", "b2")])

    def test_two_atoms_in_the_other_order_and_a_word(self):
        head = (Z, ("word", "ann"), ("var", 7), Z)
        rule = (head, [("sell", (ANN, ("var", 7))), ("like", (Z, ANN))], [])
        database, row, twins = self.check(SCHEMA, rule)
        self.assertEqual(row, ("b2", "ann", "b7", "b2"))
        self.assertEqual(twins, [("t0v2", "ann", "b7", "t0v2"), ("b2", "ann", "t1v7", "b2")])
        self.assertEqual(database, [("like", ("b2", "ann")), ("like", ("t0v2", "ann")), ("sell", ("ann", "b7")),
                                    ("sell", ("ann", "t1v7"))])

    def test_three_atoms(self):
        schema = [("a", 2, None), ("b", 2, None), ("c", 2, None)]
        rule = ((X, Y, Z, U), [("a", (X, Y)), ("b", (Y, Z)), ("c", (Z, U))], [])
        database, _, twins = self.check(schema, rule)
        self.assertEqual(twins, [("b0", "b1", "t0v2", "t0v3"), ("t1v0", "b1", "b2", "t1v3"),
                                 ("t2v0", "t2v1", "b2", "b3")])
        self.assertEqual(len(database), 9)
        # What the key of b brings into the closure stays in the twin of the first atom.
        twins = self.check([("a", 2, None), ("b", 2, 1), ("c", 2, None)], rule)[2]
        self.assertEqual(twins[0], ("b0", "b1", "b2", "t0v3"))

    def test_one_atom_stands_alone(self):
        rule = ((X, Y), [("like", (X, X)), ("sell", (Y, ANN))], [])
        self.assertEqual(self.check(SCHEMA, rule)[2], [("b0", "t0v1"), ("t1v0", "b1")])

    def test_errors(self):
        for schema in [SCHEMA, [("like", 2, 1), ("sell", 2, 1)]]:
            for rule in [((X, Y, Z), RULE[1], [(X, "!=", Z)]), ((X, Y), [("like", (X, Y)), ("like", (Y, X))], []),
                         ((X, Z), RULE[1], [])]:
                self.assertRaises(NotPlain, counterexample, schema, rule)
        self.assertRaises(Removable, counterexample, [("like", 2, None), ("sell", 2, 1)], RULE)
        self.assertRaises(Removable, counterexample, [("like", 2, 2), ("sell", 2, 2)], ((X, Y), [("sell", (X, Y))], []))
        self.assertRaises(Removable, counterexample, [("like", 2, 2), ("sell", 2, 1)],
                          ((X, Y, Z), [("sell", (Y, Z)), ("like", (X, Y))], []))

    def test_made_rules(self):
        count = 0
        for seed in range(400):
            maker = Maker(seed)
            schema = maker.schema()
            rule = plain_rule(maker, schema)
            if removal_place(schema, rule) is not None:
                self.assertRaises(Removable, counterexample, schema, rule)
            else:
                self.check(schema, rule)
                count += 1
        self.assertGreater(count, 40)


class CheckCounterexample(unittest.TestCase):
    DATABASE, ROW, TWINS = counterexample(SCHEMA, RULE)

    def told(self, row=ROW, twins=None, rule=RULE, database=None):
        return pure(self, check_counterexample, SCHEMA, rule, database or self.DATABASE, row=row,
                    twins=self.TWINS if twins is None else twins)

    def test_other_twins_do_too(self):
        database = self.DATABASE + [("sell", ("b1", "zz"))]
        self.assertIs(self.told(twins=[("b0", "b1", "zz"), self.TWINS[1]], database=database), True)

    def test_a_row_that_is_none(self):
        for row in [("b0", "b1", "b3"), ("b1", "b1", "b2"), ("b0", "b1"), ("b0", "b1", "b2", "b2"), ()]:
            self.assertIs(self.told(row=row), False)
        self.assertIs(self.told(database=self.DATABASE[1:]), False)

    def test_too_few_and_too_many_twins(self):
        for twins in [[], self.TWINS[:1], self.TWINS[1:], self.TWINS + self.TWINS[:1]]:
            self.assertIs(self.told(twins=twins), False)

    def test_a_twin_that_is_the_row_itself(self):
        self.assertIs(self.told(twins=[self.ROW, self.TWINS[1]]), False)
        self.assertIs(self.told(twins=[self.TWINS[0], self.ROW]), False)

    def test_a_twin_that_is_no_row(self):
        for twin in [("b0", "b1", "q"), ("b0", "b1"), ()]:
            self.assertIs(self.told(twins=[twin, self.TWINS[1]]), False)
            self.assertIs(self.told(twins=[self.TWINS[0], twin]), False)

    def test_a_twin_with_another_fact_at_its_atom(self):
        self.assertIs(self.told(twins=self.TWINS[::-1]), False)
        self.assertIs(self.told(twins=[self.TWINS[0]] * 2), False)
        both = ("t1v0", "b1", "t0v2")
        self.assertIn(both, rule_rows(self.DATABASE, RULE))
        self.assertIs(self.told(twins=[both, self.TWINS[1]]), False)
        self.assertIs(self.told(twins=[self.TWINS[0], both]), False)

    def test_another_row_of_the_database(self):
        self.assertIs(self.told(row=("b0", "b1", "t0v2"), twins=[self.ROW, ("t1v0", "b1", "t0v2")]), True)

    def test_a_rule_that_is_not_plain(self):
        for rule in [((X, Y, Z), RULE[1], [(X, "!=", Z)]), ((X, Y, Z), RULE[1] + [RULE[1][0]], []),
                     ((X, Y, Y), RULE[1], [])]:
            self.assertIs(is_plain(rule), False)
            self.assertIs(self.told(rule=rule), False)

    def test_a_rule_with_a_removal_place(self):
        schema = [("like", 2, None), ("sell", 2, 1)]
        database = [("like", ("b0", "b1")), ("like", ("t1v0", "b1")), ("sell", ("b1", "b2"))]
        for twins in [[self.ROW, self.TWINS[1]], [("t1v0", "b1", "b2")] * 2, self.TWINS]:
            self.assertIs(pure(self, check_counterexample, schema, RULE, database, row=self.ROW, twins=twins), False)


class Interface(unittest.TestCase):
    def test_the_functions_are_defined_in_this_file(self):
        for function in [counterexample, check_counterexample]:
            self.assertEqual(function.__module__, general.__name__)

    def test_the_names_of_the_arguments(self):
        database, row, twins = counterexample(schema=SCHEMA, rule=RULE)
        self.assertIs(check_counterexample(schema=SCHEMA, rule=RULE, database=database, row=row, twins=twins), True)
        self.assertRaises(TypeError, lambda: check_counterexample(SCHEMA, RULE, database, row, twins))
