import unittest

from helpers import Maker, U, X, Y, Z, pure
from wishshown import writing
from wishshown.errors import BadSize
from wishshown.reading import (
    read_change, read_database, read_facts, read_schema, read_term, read_views, read_wish,
)
from wishshown.wishes import wish_of
from wishshown.writing import (
    write_change, write_fact, write_facts, write_rule, write_schema, write_term, write_views, write_wish,
)

SCHEMA = [("pets", 2, 1), ("owns", 2, None)]
FACTS = [("pets", ("cat", "red")), ("owns", ("ada", "cat")), ("owns", ("bo", "cat"))]
A = ("word", "a")


class Parts(unittest.TestCase):
    def test_terms(self):
        for number in range(8):
            self.assertEqual(write_term(("var", number)), f"?{number}")
        for word in ["a", "0", "7", "007", "a0", "abcdefghijkl", "var", "word"]:
            self.assertEqual(write_term(("word", word)), word)
            self.assertEqual(read_term(write_term(("word", word))), ("word", word))

    def test_facts(self):
        self.assertEqual(pure(self, write_fact, ("owns", ("ada",))), "owns ada")
        self.assertEqual(write_fact(("owns", ("ada", "cat", "0", "x1"))), "owns ada cat 0 x1")

    def test_a_rule_without_conditions(self):
        rule = ((X,), [("owns", (X, Y))], [])
        self.assertEqual(pure(self, write_rule, rule), "rule ?0 <- owns ?0 ?1")
        rule = ((X, A, Z), [("owns", (X, Y)), ("pets", (Y, A)), ("one", (Z,))], [])
        self.assertEqual(write_rule(rule), "rule ?0 a ?2 <- owns ?0 ?1 , pets ?1 a , one ?2")

    def test_a_rule_with_conditions(self):
        rule = ((X,), [("owns", (X, Y)), ("owns", (Y, ("word", "bo")))], [(X, "!=", Y)])
        self.assertEqual(pure(self, write_rule, rule), "rule ?0 <- owns ?0 ?1 , owns ?1 bo ; ?0 != ?1")
        rule = ((U,), [("owns", (U, Y))], [(A, "=", U), (U, "!=", Y), (Y, "=", A)])
        self.assertEqual(write_rule(rule), "rule ?3 <- owns ?3 ?1 ; a = ?3 , ?3 != ?1 , ?1 = a")


class Schemas(unittest.TestCase):
    def test_tables_with_and_without_keys(self):
        for schema, text in [([("owns", 2, None)], "table owns 2\n"), ([("t", 4, 4)], "table t 4 key 4\n"),
                             ([("key", 3, 1), ("table", 1, None)], "table key 3 key 1\ntable table 1\n"),
                             ([], "")]:
            self.assertEqual(pure(self, write_schema, schema), text)

    def test_one_table_and_four_are_read_back(self):
        for schema in [[("a", 1, 1)], [("a", 1, None), ("z", 2, 2), ("b", 3, None), ("y", 4, 1)]]:
            text = write_schema(schema)
            self.assertEqual(text.count("\n"), len(schema))
            self.assertEqual(read_schema(text), schema)
            self.assertEqual(write_schema(read_schema(text)), text)

    def test_five_tables_are_written_but_do_not_pass_the_check(self):
        text = write_schema([(name, 1, None) for name in "abcde"])
        self.assertEqual(text, "table a 1\ntable b 1\ntable c 1\ntable d 1\ntable e 1\n")
        with self.assertRaises(BadSize):
            read_schema(text)


class Facts(unittest.TestCase):
    def test_no_facts(self):
        self.assertEqual(pure(self, write_facts, []), "")
        self.assertEqual(read_facts(SCHEMA, write_facts([])), [])

    def test_facts(self):
        text = "pets cat red\nowns ada cat\nowns bo cat\n"
        self.assertEqual(pure(self, write_facts, FACTS), text)
        self.assertEqual(read_database(SCHEMA, text), FACTS)


class Views(unittest.TestCase):
    def test_views(self):
        views = [(2, [((X, Y), [("owns", (X, Y))], []), ((X, A), [("pets", (X, X))], [(X, "!=", A)])]),
                 (1, [((Z,), [("owns", (Z, Y)), ("pets", (Y, U))], [(Y, "=", U), (Z, "!=", U)])])]
        text = ("view 2\nrule ?0 ?1 <- owns ?0 ?1\nrule ?0 a <- pets ?0 ?0 ; ?0 != a\n"
                "view 1\nrule ?2 <- owns ?2 ?1 , pets ?1 ?3 ; ?1 = ?3 , ?2 != ?3\n")
        self.assertEqual(pure(self, write_views, views), text)
        self.assertEqual(read_views(SCHEMA, text), views)

    def test_one_line_after_the_other(self):
        self.assertEqual(write_views([]), "")
        self.assertEqual(write_views([(3, [])]), "view 3\n")


class Wishes(unittest.TestCase):
    def test_the_example(self):
        edits = [(0, "add", ("ada",))]
        told = write_wish([("owns", 2, None), ("pets", 1, 1)], (edits, [(True, False), (False, False)]))
        self.assertEqual(told, "may owns delete\nmay pets\nadd 0 ada\n")

    def test_all_kinds_of_may_lines_without_edits(self):
        schema = [("delete", 1, None), ("insert", 1, None), ("may", 1, None), ("add", 1, None)]
        wish = ([], [(True, True), (True, False), (False, True), (False, False)])
        text = "may delete delete insert\nmay insert delete\nmay may insert\nmay add\n"
        self.assertEqual(pure(self, write_wish, schema, wish), text)
        self.assertEqual(read_wish(schema, [(1, [])], text), wish)

    def test_edits_in_their_order(self):
        views = [(2, []), (1, [])]
        wish = ([(1, "remove", ("x",)), (0, "add", ("ada", "0")), (1, "add", ("b",)), (1, "remove", ("x",))],
                [(False, False), (True, True)])
        text = "may pets\nmay owns delete insert\nremove 1 x\nadd 0 ada 0\nadd 1 b\nremove 1 x\n"
        self.assertEqual(pure(self, write_wish, SCHEMA, wish), text)
        self.assertEqual(read_wish(SCHEMA, views, text), wish)


class Changes(unittest.TestCase):
    def test_changes(self):
        new = [("pets", ("cat", "tan")), ("owns", ("cy", "dog"))]
        for change, text in [
            (([], []), ""),
            (([FACTS[0], FACTS[2]], []), "delete pets cat red\ndelete owns bo cat\n"),
            (([], new), "insert pets cat tan\ninsert owns cy dog\n"),
            (([FACTS[0]], new), "delete pets cat red\ninsert pets cat tan\ninsert owns cy dog\n"),
        ]:
            self.assertEqual(pure(self, write_change, change), text)
            self.assertEqual(read_change(SCHEMA, FACTS, text), change)


class ReadBack(unittest.TestCase):
    """Point 26: what is written is read back equal, and written again it is the same text."""

    def back(self, value, write, read):
        text = pure(self, write, value)
        self.assertTrue(text == "" or text.endswith("\n"))
        self.assertEqual(read(text), value)
        self.assertEqual(write(read(text)), text)

    def test_made_data(self):
        for seed in range(150):
            maker = Maker(seed)
            schema, words = maker.schema(), ["a", "0", "x7", "abcdefghijkl"]
            facts = maker.holding(schema, words, 9)
            views = [maker.view(schema, words) for _ in range(maker.random.randint(1, 4))]
            change = maker.change(schema, facts, words, 5)
            may = [(maker.random.random() < 0.5, maker.random.random() < 0.5) for _ in schema]
            edits, _ = wish_of(schema, facts, views, change, may=may)
            self.back(schema, write_schema, read_schema)
            self.back(facts, write_facts, lambda text: read_facts(schema, text))
            self.back(facts, write_facts, lambda text: read_database(schema, text))
            self.back(views, write_views, lambda text: read_views(schema, text))
            self.back((edits[:6], may), lambda wish: write_wish(schema, wish), lambda text: read_wish(schema, views, text))
            self.back(change, write_change, lambda text: read_change(schema, facts, text))


class Interface(unittest.TestCase):
    def test_the_functions_are_defined_in_this_file(self):
        for function in [write_term, write_fact, write_rule, write_schema, write_facts, write_views, write_wish,
                         write_change]:
            self.assertEqual(function.__module__, writing.__name__)

    def test_the_names_of_the_arguments(self):
        self.assertEqual(write_term(term=X), "?0")
        self.assertEqual(write_fact(fact=FACTS[0]), "pets cat red")
        self.assertEqual(write_rule(rule=((X,), [("a", (X,))], [])), "rule ?0 <- a ?0")
        self.assertEqual(write_schema(schema=SCHEMA[1:]), "table owns 2\n")
        self.assertEqual(write_facts(facts=FACTS[:1]), "pets cat red\n")
        self.assertEqual(write_views(views=[]), "")
        self.assertEqual(write_wish(schema=SCHEMA[:1], wish=([], [(False, True)])), "may pets insert\n")
        self.assertEqual(write_change(change=([], [])), "")
