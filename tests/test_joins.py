import unittest

from helpers import Maker, U, X, Y, Z, made, plain_assignments, plain_row, pure
from wishshown import joins
from wishshown.joins import assignments, holds, row_of, rule_rows, unify, variables_of, witness_of

# The tables of these facts stand in falling order of their names.
FACTS = [("owns", ("ada", "cat")), ("owns", ("bo", "cat")), ("owns", ("bo", "dog")), ("eats", ("cat", "fish")),
         ("eats", ("dog", "dog")), ("eats", ("fish", "cat"))]
CHAIN = ((X, Z), [("owns", (X, Y)), ("eats", (Y, Z))], [])


class Variables(unittest.TestCase):
    def test_ascending_each_once(self):
        atoms = [("a", (("var", 7), ("word", "x"), Y)), ("b", (Y, ("var", 7), X)), ("c", (("word", "0"),))]
        self.assertEqual(pure(self, variables_of, atoms), [0, 1, 7])

    def test_none(self):
        self.assertEqual(variables_of([]), [])
        self.assertEqual(variables_of([("a", (("word", "x"),))]), [])


class Unify(unittest.TestCase):
    def test_the_examples(self):
        self.assertEqual(unify(("item", (Z, ("word", "red"))), ("item", ("a1", "red")), ((0, "b"),)),
                         ((0, "b"), (2, "a1")))
        self.assertIsNone(unify(("item", (X, X)), ("item", ("a", "b")), ()))

    def test_an_assignment_that_agrees(self):
        self.assertEqual(pure(self, unify, ("item", (Y, X)), ("item", ("a", "b")), ((1, "a"), (5, "c"))),
                         ((0, "b"), (1, "a"), (5, "c")))
        self.assertEqual(unify(("item", (X, Y)), ("item", ("a", "b")), ((0, "a"), (1, "b"))), ((0, "a"), (1, "b")))

    def test_an_assignment_that_does_not(self):
        self.assertIsNone(pure(self, unify, ("item", (Y, X)), ("item", ("a", "b")), ((1, "b"),)))
        self.assertIsNone(unify(("item", (Y, X)), ("item", ("a", "b")), ((0, "a"), (1, "a"))))

    def test_a_variable_that_stands_twice(self):
        atom = ("item", (X, Y, X))
        self.assertEqual(unify(atom, ("item", ("a", "b", "a")), ()), ((0, "a"), (1, "b")))
        self.assertIsNone(unify(atom, ("item", ("a", "b", "b")), ()))
        self.assertIsNone(unify(atom, ("item", ("a", "b", "a")), ((0, "b"),)))

    def test_words(self):
        atom = ("item", (("word", "red"), ("word", "a")))
        self.assertEqual(unify(atom, ("item", ("red", "a")), ()), ())
        self.assertEqual(unify(atom, ("item", ("red", "a")), ((3, "x"),)), ((3, "x"),))
        self.assertIsNone(unify(atom, ("item", ("red", "b")), ()))
        self.assertIsNone(unify(("item", (("word", "red"), X)), ("item", ("blue", "b")), ()))

    def test_another_table(self):
        self.assertIsNone(unify(("item", (X,)), ("box", ("a",)), ()))
        self.assertIsNone(unify(("item", (X,)), ("box", ("a",)), ((0, "a"),)))

    def test_the_order_of_the_variables(self):
        atom = ("item", (("var", 7), ("var", 0), ("var", 3)))
        self.assertEqual(unify(atom, ("item", ("a", "b", "c")), ((1, "z"), (5, "y"))),
                         ((0, "b"), (1, "z"), (3, "c"), (5, "y"), (7, "a")))


class Holds(unittest.TestCase):
    def test_both_signs(self):
        given = ((0, "a"), (1, "a"), (2, "b"))
        for left, right, equal in [(X, Y, True), (X, Z, False), (X, X, True), (X, ("word", "a"), True),
                                   (("word", "b"), Z, True), (("word", "a"), Z, False),
                                   (("word", "a"), ("word", "a"), True), (("word", "a"), ("word", "b"), False)]:
            self.assertIs(pure(self, holds, (left, "=", right), given), equal)
            self.assertIs(pure(self, holds, (left, "!=", right), given), not equal)


class Assignments(unittest.TestCase):
    def test_a_chain(self):
        self.assertEqual(pure(self, assignments, FACTS, CHAIN), [
            ((0, "ada"), (1, "cat"), (2, "fish")), ((0, "bo"), (1, "cat"), (2, "fish")),
            ((0, "bo"), (1, "dog"), (2, "dog"))])

    def test_conditions(self):
        rule = (CHAIN[0], CHAIN[1], [(Y, "!=", Z)])
        self.assertEqual([dict(each)[2] for each in assignments(FACTS, rule)], ["fish", "fish"])
        rule = (CHAIN[0], CHAIN[1], [(Y, "=", Z)])
        self.assertEqual(assignments(FACTS, rule), [((0, "bo"), (1, "dog"), (2, "dog"))])
        rule = (CHAIN[0], CHAIN[1], [(Y, "=", ("word", "cat")), (X, "!=", ("word", "bo"))])
        self.assertEqual(assignments(FACTS, rule), [((0, "ada"), (1, "cat"), (2, "fish"))])
        rule = (CHAIN[0], CHAIN[1], [(("word", "a"), "=", ("word", "b"))])
        self.assertEqual(assignments(FACTS, rule), [])

    def test_two_atoms_may_make_the_same_fact(self):
        rule = ((X,), [("eats", (X, Y)), ("eats", (Y, X))], [])
        self.assertEqual(assignments(FACTS, rule), [((0, "cat"), (1, "fish")), ((0, "dog"), (1, "dog")),
                                                    ((0, "fish"), (1, "cat"))])
        self.assertEqual(witness_of(FACTS, rule, ((0, "dog"), (1, "dog"))), [("eats", ("dog", "dog"))])

    def test_nothing_fits(self):
        self.assertEqual(assignments([], CHAIN), [])
        self.assertEqual(assignments(FACTS[:3], CHAIN), [])
        self.assertEqual(assignments(FACTS, ((X,), [("owns", (X, X))], [])), [])
        self.assertEqual(assignments(FACTS, ((X,), [("other", (X,))], [])), [])

    def test_no_variables(self):
        atom = ("owns", (("word", "ada"), ("word", "cat")))
        self.assertEqual(assignments(FACTS, ((("word", "x"),), [atom], [])), [()])
        self.assertEqual(assignments(FACTS[1:], ((("word", "x"),), [atom], [])), [])
        self.assertEqual(rule_rows(FACTS, ((("word", "x"),), [atom], [])), [("x",)])

    def test_atoms_without_a_common_variable(self):
        rule = ((X, Z), [("owns", (X, ("word", "dog"))), ("eats", (Z, ("word", "fish")))], [])
        self.assertEqual(assignments(FACTS, rule), [((0, "bo"), (2, "cat"))])

    def test_made_data(self):
        counts = []
        for seed in range(300):
            maker = Maker(seed)
            schema = maker.schema()
            words = ["a", "b", "c"]
            facts = maker.facts(schema, words, 14)
            rule = maker.rule(schema, words, 2)
            told = plain_assignments(facts, rule)
            counts.append(len(told))
            self.assertEqual(assignments(facts, rule), told)
            self.assertEqual(rule_rows(facts, rule), sorted({plain_row(rule, each) for each in told}))
            for each in told:
                self.assertEqual(row_of(rule, each), plain_row(rule, each))
                facts_made = [made(atom, dict(each)) for atom in rule[1]]
                self.assertEqual(witness_of(facts, rule, each), [fact for fact in facts if fact in facts_made])
        self.assertGreater(sum(count > 2 for count in counts), 60)
        self.assertGreater(counts.count(0), 20)

    def test_more_than_24_facts(self):
        facts = [("next", (f"n{place:02}", f"n{place + 1:02}")) for place in range(60)]
        rule = ((X, U), [("next", (X, Y)), ("next", (Y, Z)), ("next", (Z, U))], [])
        self.assertEqual(rule_rows(facts, rule), [(f"n{place:02}", f"n{place + 3:02}") for place in range(58)])


class Rows(unittest.TestCase):
    def test_row_of(self):
        rule = ((Z, ("word", "w"), X, X), [("owns", (X, Z))], [])
        self.assertEqual(pure(self, row_of, rule, ((0, "a"), (2, "b"))), ("b", "w", "a", "a"))

    def test_witness_of_is_in_the_order_of_the_database(self):
        rule = ((X,), [("eats", (Y, Z)), ("owns", (X, Y)), ("eats", (Y, Z))], [])
        self.assertEqual(pure(self, witness_of, FACTS, rule, ((0, "bo"), (1, "cat"), (2, "fish"))),
                         [("owns", ("bo", "cat")), ("eats", ("cat", "fish"))])

    def test_rule_rows_are_ascending_each_once(self):
        self.assertEqual(pure(self, rule_rows, FACTS, ((Y,), [("owns", (X, Y))], [])), [("cat",), ("dog",)])
        self.assertEqual(rule_rows(FACTS, ((Z, X), CHAIN[1], [])), [("dog", "bo"), ("fish", "ada"), ("fish", "bo")])

    def test_the_example(self):
        facts = [("box", ("a", "red")), ("box", ("b", "blue")), ("box", ("c", "red"))]
        rule = ((X, Z), [("box", (X, Y)), ("box", (Z, Y))], [(X, "!=", Z)])
        self.assertEqual(pure(self, rule_rows, facts, rule), [("a", "c"), ("c", "a")])


class Interface(unittest.TestCase):
    def test_the_functions_are_defined_in_this_file(self):
        for function in [variables_of, unify, holds, assignments, row_of, witness_of, rule_rows]:
            self.assertEqual(function.__module__, joins.__name__)

    def test_the_names_of_the_arguments(self):
        rule = ((X,), [("a", (X,))], [])
        self.assertEqual(variables_of(atoms=rule[1]), [0])
        self.assertEqual(unify(atom=("a", (X,)), fact=("a", ("b",)), assignment=()), ((0, "b"),))
        self.assertTrue(holds(condition=(X, "=", X), assignment=((0, "a"),)))
        self.assertEqual(assignments(database=[], rule=rule), [])
        self.assertEqual(row_of(rule=rule, assignment=((0, "b"),)), ("b",))
        self.assertEqual(witness_of(database=[("a", ("b",))], rule=rule, assignment=((0, "b"),)), [("a", ("b",))])
        self.assertEqual(rule_rows(database=[], rule=rule), [])
