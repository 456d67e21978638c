import copy
import unittest

from helpers import Maker, X, Y, Z, all_facts, plain_assignments, plain_row, plain_view_rows, spoil
from wishshown import live
from wishshown.errors import AlreadyThere, NotThere
from wishshown.live import LiveView

SCHEMA = [("owns", 2, 1), ("eats", 2, None)]
FACTS = [("owns", ("ada", "cat")), ("owns", ("bo", "dog")), ("eats", ("cat", "fish")), ("eats", ("dog", "dog"))]
CHAIN = ((X, Z), [("owns", (X, Y)), ("eats", (Y, Z))], [])
VIEW = (2, [CHAIN])


class Counts(unittest.TestCase):
    def test_at_the_beginning(self):
        view = LiveView(SCHEMA, FACTS, VIEW)
        self.assertEqual(view.rows(), [("ada", "fish"), ("bo", "dog")])
        self.assertEqual(view.facts(), FACTS)
        self.assertEqual((view.count(("ada", "fish")), view.count(("ada", "dog"))), (1, 0))
        self.assertEqual(LiveView(SCHEMA, [], VIEW).rows(), [])

    def test_several_assignments_of_one_row(self):
        view = LiveView(SCHEMA, FACTS, (1, [((Z,), CHAIN[1], []), ((X,), [("eats", (X, Y))], [])]))
        self.assertEqual(view.rows(), [("cat",), ("dog",), ("fish",)])
        self.assertEqual([view.count((word,)) for word in ["cat", "dog", "fish", "ada"]], [1, 2, 1, 0])
        self.assertEqual(view.insert(("owns", ("cy", "dog"))), [])
        self.assertEqual(view.count(("dog",)), 3)
        self.assertEqual(view.delete(("eats", ("dog", "dog"))), [("dog",)])
        self.assertEqual(view.count(("dog",)), 0)
        self.assertEqual(view.rows(), [("cat",), ("fish",)])

    def test_equal_rules_count_apart(self):
        view = LiveView(SCHEMA, FACTS, (2, [CHAIN, CHAIN, copy.deepcopy(CHAIN)]))
        self.assertEqual(view.count(("ada", "fish")), 3)
        self.assertEqual(view.insert(("owns", ("ada", "dog"))), [("ada", "dog")])
        self.assertEqual(view.count(("ada", "dog")), 3)
        self.assertEqual(view.delete(("eats", ("cat", "fish"))), [("ada", "fish")])
        self.assertEqual(view.count(("ada", "fish")), 0)

    def test_a_fact_that_several_atoms_make(self):
        rule = ((X,), [("eats", (X, Y)), ("eats", (Y, Z)), ("eats", (Z, X))], [])
        view = LiveView(SCHEMA, FACTS, (1, [rule]))
        self.assertEqual((view.rows(), view.count(("dog",))), ([("dog",)], 1))
        self.assertEqual(view.delete(("eats", ("dog", "dog"))), [("dog",)])
        self.assertEqual(view.insert(("eats", ("fish", "fish"))), [("fish",)])
        self.assertEqual(view.count(("fish",)), 1)
        self.assertEqual(view.insert(("eats", ("fish", "cat"))), [("cat",)])
        self.assertEqual([view.count((word,)) for word in ["cat", "fish"]], [1, 3])
        self.assertEqual(view.insert(("eats", ("cat", "cat"))), [])
        self.assertEqual([view.count((word,)) for word in ["cat", "fish"]], [4, 4])
        self.assertEqual(view.delete(("eats", ("fish", "fish"))), [])
        self.assertEqual([view.count((word,)) for word in ["cat", "fish"]], [3, 1])

    def test_a_fact_of_no_atom_changes_no_row(self):
        view = LiveView(SCHEMA, FACTS, (1, [((X,), [("owns", (X, Y))], [])]))
        self.assertEqual((view.delete(FACTS[2]), view.insert(("eats", ("a", "b")))), ([], []))
        self.assertEqual(view.rows(), [("ada",), ("bo",)])

    def test_the_answers_are_ascending(self):
        view = LiveView(SCHEMA, [("owns", (name, "cat")) for name in ["a", "b", "c"]], VIEW)
        rows = [(name, "fish") for name in ["a", "b", "c"]]
        self.assertEqual(view.insert(FACTS[2]), rows)
        self.assertEqual(view.delete(FACTS[2]), rows)

    def test_facts_are_in_the_order_of_the_schema(self):
        view = LiveView(SCHEMA, FACTS, VIEW)
        view.insert(("eats", ("a", "a")))
        view.insert(("owns", ("cy", "cat")))
        view.delete(FACTS[3])
        self.assertEqual(view.facts(), FACTS[:2] + [("owns", ("cy", "cat")), ("eats", ("a", "a")), FACTS[2]])


class Errors(unittest.TestCase):
    def setUp(self):
        self.view = LiveView(SCHEMA, FACTS, VIEW)

    def unchanged(self):
        self.assertEqual(self.view.rows(), [("ada", "fish"), ("bo", "dog")])
        self.assertEqual(self.view.facts(), FACTS)
        self.assertEqual([self.view.count(row) for row in self.view.rows()], [1, 1])

    def test_not_there(self):
        for fact in [("owns", ("ada", "dog")), ("eats", ("fish", "cat")), ("none", ("a",))]:
            with self.assertRaises(NotThere) as caught:
                self.view.delete(fact)
            self.assertEqual(caught.exception.fact, fact)
            self.unchanged()
        self.view.delete(FACTS[0])
        with self.assertRaises(NotThere):
            self.view.delete(FACTS[0])

    def test_already_there(self):
        for fact in FACTS:
            with self.assertRaises(AlreadyThere) as caught:
                self.view.insert(fact)
            self.assertEqual(caught.exception.fact, fact)
            self.unchanged()
        self.view.delete(FACTS[0])
        self.assertEqual(self.view.insert(FACTS[0]), [("ada", "fish")])
        self.unchanged()

    def test_keys_and_sizes_play_no_part(self):
        self.assertEqual(self.view.insert(("owns", ("ada", "dog"))), [("ada", "dog")])
        for place in range(40):
            self.view.insert(("eats", ("cat", f"f{place:02}")))
        self.assertEqual(len(self.view.facts()), 45)
        self.assertEqual(len(self.view.rows()), 43)
        self.assertEqual(len(self.view.delete(FACTS[0])), 41)
        self.assertEqual(len(LiveView(SCHEMA, self.view.facts(), VIEW).rows()), 2)


class Apart(unittest.TestCase):
    def test_what_it_was_made_of_is_left_alone(self):
        schema, facts, views = copy.deepcopy((SCHEMA, FACTS, VIEW))
        view = LiveView(schema, facts, views)
        view.delete(FACTS[0])
        view.insert(("owns", ("cy", "cat")))
        self.assertEqual((schema, facts, views), (SCHEMA, FACTS, VIEW))

    def test_changing_what_it_was_made_of_changes_nothing(self):
        schema, facts, views = copy.deepcopy((SCHEMA, FACTS, VIEW))
        view = LiveView(schema, facts, views)
        spoil((schema, facts, views))
        self.assertEqual(view.rows(), [("ada", "fish"), ("bo", "dog")])
        self.assertEqual(view.insert(("owns", ("cy", "cat"))), [("cy", "fish")])
        self.assertEqual(view.delete(("eats", ("cat", "fish"))), [("ada", "fish"), ("cy", "fish")])
        self.assertEqual(view.facts(), FACTS[:2] + [("owns", ("cy", "cat")), FACTS[3]])

    def test_what_it_hands_out_is_new(self):
        view = LiveView(SCHEMA, FACTS, VIEW)
        spoil(view.rows())
        spoil(view.facts())
        spoil(view.delete(FACTS[0]))
        spoil(view.insert(FACTS[0]))
        self.assertEqual(view.rows(), [("ada", "fish"), ("bo", "dog")])
        self.assertEqual(view.facts(), FACTS)


class MadeData(unittest.TestCase):
    def agrees(self, view, facts, told):
        """Check what the live view tells against the facts, and return its rows."""
        rows = plain_view_rows(facts, told)
        self.assertEqual(view.rows(), rows)
        self.assertEqual(sorted(view.facts()), sorted(facts))
        counts = {}
        for rule in told[1]:
            for each in plain_assignments(facts, rule):
                row = plain_row(rule, each)
                counts[row] = counts.get(row, 0) + 1
        self.assertEqual({row: view.count(row) for row in rows}, counts)
        return rows

    def test_steps(self):
        moved = 0
        for seed in range(60):
            maker = Maker(seed)
            schema = maker.schema()
            words = ["a", "b", "c"]
            facts = maker.facts(schema, words, 8)
            told = maker.view(schema, words)
            view = LiveView(schema, facts, told)
            rows = self.agrees(view, facts, told)
            for fact in maker.random.choices(all_facts(schema, words), k=10):
                if fact in facts:
                    facts = [other for other in facts if other != fact]
                    answer = view.delete(fact)
                    later = self.agrees(view, facts, told)
                    self.assertEqual(answer, [row for row in rows if row not in later])
                else:
                    facts = facts + [fact]
                    answer = view.insert(fact)
                    later = self.agrees(view, facts, told)
                    self.assertEqual(answer, [row for row in later if row not in rows])
                moved += rows != later
                rows = later
        self.assertGreater(moved, 60)


class Interface(unittest.TestCase):
    def test_the_methods_are_defined_in_the_class(self):
        self.assertEqual(LiveView.__module__, live.__name__)
        for name in ["rows", "count", "facts", "delete", "insert"]:
            self.assertIn(name, vars(LiveView))

    def test_the_names_of_the_arguments(self):
        self.assertEqual(LiveView(schema=SCHEMA, database=FACTS, view=VIEW).rows(), [("ada", "fish"), ("bo", "dog")])
