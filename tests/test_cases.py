import unittest

from helpers import (
    U, X, Y, Z, made_task, made, plain_assignments, plain_children, plain_row, plain_standing, plain_view_rows,
    plain_ways, pure,
)
from wishshown import cases
from wishshown.cases import change_of, children, first_case, standing, ways, wrong
from wishshown.tables import ascending
from wishshown.wishes import does, wanted

SCHEMA = [("emp", 2, None), ("boss", 2, None)]
ANN, BEA, XC, YD = ("emp", ("ann", "x")), ("emp", ("bea", "y")), ("boss", ("x", "cy")), ("boss", ("y", "di"))
FACTS = [ANN, BEA, XC, YD]
CHIEFS = (2, [((X, Z), [("emp", (X, Y)), ("boss", (Y, Z))], [])])
ALL, NONE = (True, True), (False, False)
FIRST = ([], [])
OFF = (0, "remove", ("ann", "cy"))
ADD = (0, "add", ("ann", "di"))
EXTRA = ("extra", 0, ("ann", "cy"), [ANN, XC])
MISSING = ("missing", 0, ("ann", "di"))


def word(text):
    return ("word", text)


def task(edits=(OFF,), may=(ALL, ALL), views=(CHIEFS,), facts=FACTS, schema=SCHEMA):
    return (schema, list(facts), list(views), (list(edits), list(may)))


def keyed(edits, may=(ALL, ALL), facts=FACTS, keys=(1, None)):
    """The same task, where the tables have these keys."""
    return task(edits, may, facts=facts, schema=[("emp", 2, keys[0]), ("boss", 2, keys[1])])


def emp(*row):
    return ("emp", row)


def boss(*row):
    return ("boss", row)


class Cases(unittest.TestCase):
    def test_the_first_case(self):
        self.assertEqual(first_case(), ([], []))
        first_case()[0].append(ANN)
        self.assertEqual(first_case(), ([], []))

    def test_standing(self):
        for case, told in [(FIRST, FACTS), (([ANN, YD], []), [BEA, XC]), (([], [BEA, YD]), FACTS),
                           (([], [emp("abe", "z"), XC, boss("z", "di")]),
                            [emp("abe", "z"), ANN, BEA, XC, YD, boss("z", "di")]),
                           (([BEA], [emp("bea", "a0"), boss("a0", "cy")]),
                            [ANN, emp("bea", "a0"), boss("a0", "cy"), XC, YD])]:
            self.assertEqual(pure(self, standing, task(), case), told)

    def test_the_change_of_a_case(self):
        for case, told in [(FIRST, FIRST), (([ANN, YD], [BEA, XC]), ([ANN, YD], [])),
                           (([BEA], [ANN, emp("bea", "a0"), boss("a0", "cy"), XC]),
                            ([BEA], [emp("bea", "a0"), boss("a0", "cy")]))]:
            self.assertEqual(pure(self, change_of, task(), case), told)


class Ways(unittest.TestCase):
    def test_variables_of_the_head(self):
        rule = ((X, Y), [("emp", (X, Y)), ("boss", (Y, X))], [])
        self.assertEqual(pure(self, ways, task(), FIRST, rule, ("cy", "ann")), [((0, "cy"), (1, "ann"))])
        self.assertEqual(ways(task(), FIRST, ((X, X), [("emp", (X, X))], []), ("x", "x")), [((0, "x"),)])
        self.assertEqual(ways(task(), FIRST, ((X, X), [("emp", (X, X))], []), ("x", "y")), [])
        self.assertEqual(ways(task(), FIRST, ((X, word("cy")), [("emp", (X, X))], []), ("x", "cy")), [((0, "x"),)])
        self.assertEqual(ways(task(), FIRST, ((X, word("cy")), [("emp", (X, X))], []), ("x", "di")), [])

    def test_words_that_are_not_in_use(self):
        rule = ((X, Y), [("emp", (X, Y))], [])
        self.assertEqual(ways(task(), FIRST, rule, ("ann", "zoe")), [])
        self.assertEqual(ways(task(), FIRST, rule, ("ann", "a1")), [])
        self.assertEqual(ways(task(), FIRST, rule, ("ann", "a0")), [((0, "ann"), (1, "a0"))])
        self.assertEqual(ways(task(), FIRST, rule, ("a0", "a1")), [((0, "a0"), (1, "a1"))])
        self.assertEqual(ways(task(), FIRST, rule, ("a1", "a0")), [])
        self.assertEqual(ways(task(), ([], [emp("a0", "a1")]), rule, ("a1", "a2")), [((0, "a1"), (1, "a2"))])
        self.assertEqual(ways(task(edits=[(0, "add", ("zoe", "zoe"))]), FIRST, rule, ("ann", "zoe")),
                         [((0, "ann"), (1, "zoe"))])

    def test_words_in_use_and_a_fresh_word(self):
        used = ["ann", "bea", "cy", "di", "x", "y"]
        found = pure(self, ways, task(), FIRST, CHIEFS[1][0], ("ann", "di"))
        self.assertEqual(found, [((0, "ann"), (1, each), (2, "di")) for each in used + ["a0"]])

    def test_fresh_words_of_the_case(self):
        facts = [emp("p", "a1")]
        told = task([], facts=facts)
        rule = ((X,), [("emp", (X, Y))], [])
        case = ([], [emp("p", "a0"), emp("p", "a2")])
        self.assertEqual([way[1][1] for way in ways(told, FIRST, rule, ("p",))], ["a1", "p", "a0"])
        found = pure(self, ways, told, case, rule, ("p",))
        self.assertEqual([way[1][1] for way in found], ["a1", "p", "a0", "a2", "a3"])

    def test_further_fresh_words_come_in_their_order(self):
        rule = ((), [("emp", (X, Y)), ("emp", (Z, Z))], [])
        told = task([], facts=[], views=[CHIEFS])
        self.assertEqual([tuple(each for _, each in way) for way in pure(self, ways, told, FIRST, rule, ())],
                         [("a0", "a0", "a0"), ("a0", "a0", "a1"), ("a0", "a1", "a0"), ("a0", "a1", "a1"),
                          ("a0", "a1", "a2")])
        found = ways(told, ([], [emp("a0", "a0")]), ((), [("emp", (X, Y))], []), ())
        self.assertEqual([tuple(each for _, each in way) for way in found],
                         [("a0", "a0"), ("a0", "a1"), ("a1", "a0"), ("a1", "a1"), ("a1", "a2")])

    def test_fresh_words_beyond_a9_keep_their_order(self):
        must = [emp("p", f"a{number}") for number in (0, 1, 10, 2, 3, 4, 5, 6, 7, 8, 9)]
        found = ways(task([], facts=[emp("p", "p")]), ([], must), ((X,), [("emp", (X, Y))], []), ("p",))
        self.assertEqual([way[1][1] for way in found], ["p"] + [f"a{number}" for number in range(12)])

    def test_conditions(self):
        told = task([], facts=[emp("p", "q")])
        for conditions, words in [
            ([(Y, "=", X)], ["p"]), ([(Y, "!=", X)], ["q", "a0"]), ([(word("q"), "=", Y)], ["q"]),
            ([(word("q"), "!=", Y)], ["p", "a0"]), ([(X, "=", word("p"))], ["p", "q", "a0"]),
            ([(X, "!=", word("p"))], []), ([(Y, "!=", X), (Y, "!=", word("q"))], ["a0"]),
            ([(word("p"), "=", word("q"))], []), ([(word("p"), "!=", word("q"))], ["p", "q", "a0"]),
        ]:
            found = pure(self, ways, told, FIRST, ((X,), [("emp", (X, Y))], conditions), ("p",))
            self.assertEqual([way[1][1] for way in found], words, conditions)

    def test_the_tables_and_the_facts_play_no_part(self):
        told = keyed([ADD], may=[NONE, NONE])
        self.assertEqual(ways(told, ([ANN], [BEA]), CHIEFS[1][0], ("ann", "di")),
                         ways(task([ADD]), FIRST, CHIEFS[1][0], ("ann", "di")))

    def test_a_rule_without_variables(self):
        rule = ((word("p"),), [("emp", (word("p"), word("q")))], [])
        self.assertEqual(ways(task(), FIRST, rule, ("p",)), [()])
        self.assertEqual(ways(task(), FIRST, rule, ("q",)), [])

    def test_the_order_is_that_of_the_variables(self):
        rule = ((Y,), [("emp", (U, X)), ("boss", (Y, U))], [])
        told = task([], facts=[emp("b", "a")], views=[(1, [rule])])
        found = ways(told, FIRST, rule, ("a",))
        pairs = [("a", "a"), ("a", "b"), ("a", "a0"), ("b", "a"), ("b", "b"), ("b", "a0"), ("a0", "a"), ("a0", "b"),
                 ("a0", "a0"), ("a0", "a1")]
        self.assertEqual(found, [((0, first), (1, "a"), (3, second)) for first, second in pairs])


class ChildrenOfExtraNodes(unittest.TestCase):
    def test_the_examples(self):
        told = task(facts=[ANN, XC])
        self.assertEqual(pure(self, children, told, first_case(), EXTRA), [([ANN], []), ([XC], [ANN])])
        self.assertIsNone(children(told, first_case(), ("extra", 0, ("ann", "cy"), [ANN])))

    def test_facts_that_must_stand_or_may_not_be_deleted(self):
        for may, case, told in [
            ([ALL, ALL], ([], [ANN]), [([XC], [ANN])]),
            ([ALL, ALL], ([], [XC]), [([ANN], [XC])]),
            ([ALL, ALL], ([], [ANN, XC]), []),
            ([ALL, (False, True)], FIRST, [([ANN], [])]),
            ([(False, True), (True, False)], FIRST, [([XC], [ANN])]),
            ([NONE, ALL], ([], [XC]), []),
            ([NONE, NONE], FIRST, []),
            ([ALL, ALL], ([BEA], [YD]), [([ANN, BEA], [YD]), ([BEA, XC], [ANN, YD])]),
        ]:
            self.assertEqual(pure(self, children, task(may=may), case, EXTRA), told)

    def test_the_order_is_that_of_the_witness(self):
        # The atoms name the table boss first, and the schema names it last.
        view = (1, [((X,), [("boss", (Y, Z)), ("emp", (X, Y)), ("emp", (X, U))], [])])
        facts = [emp("ann", "w"), ANN, XC]
        told = task([(0, "remove", ("ann",))], views=[view], facts=facts)
        node = ("extra", 0, ("ann",), [emp("ann", "w"), ANN, XC])
        self.assertEqual(children(told, FIRST, node),
                         [([facts[0]], []), ([ANN], facts[:1]), ([XC], facts[:2])])
        self.assertEqual(children(told, FIRST, ("extra", 0, ("ann",), [ANN, XC])), [([ANN], []), ([XC], [ANN])])

    def test_a_witness_with_facts_that_are_not_in_the_database(self):
        case = ([], [emp("ann", "y")])
        node = ("extra", 0, ("ann", "di"), [emp("ann", "y"), YD])
        self.assertEqual(children(task(), case, node), [([YD], [emp("ann", "y")])])
        self.assertIsNone(children(task(), FIRST, node))

    def test_nodes_that_do_not_fit(self):
        for case, node in [
            (FIRST, ("extra", 0, ("ann", "cy"), [XC, ANN])),
            (FIRST, ("extra", 0, ("ann", "cy"), [ANN, ANN, XC])),
            (FIRST, ("extra", 0, ("ann", "cy"), [ANN, BEA, XC])),
            (FIRST, ("extra", 0, ("ann", "cy"), [])),
            (FIRST, ("extra", 0, ("ann", "cy"), [BEA, YD])),
            (FIRST, ("extra", 0, ("ann", "di"), [ANN, YD])),
            (FIRST, ("extra", 0, ("ann", "x"), [ANN])),
            (FIRST, ("extra", 0, ("bea", "di"), [BEA, YD])),
            (([ANN], []), EXTRA),
            (([XC], []), EXTRA),
        ]:
            self.assertIsNone(pure(self, children, task(), case, node), node)
        self.assertIsNone(children(task([]), FIRST, EXTRA))

    def test_a_node_without_children(self):
        self.assertEqual(children(task(may=[NONE, NONE]), FIRST, EXTRA), [])


class ChildrenOfMissingNodes(unittest.TestCase):
    def test_the_ways_in_their_order(self):
        found = pure(self, children, task([ADD]), FIRST, MISSING)
        words = ["ann", "bea", "cy", "di", "x", "y", "a0"]
        self.assertEqual(found, [([], ascending(SCHEMA, [emp("ann", each), boss(each, "di")])) for each in words])

    def test_the_rules_in_their_order(self):
        view = (1, [((X,), [("boss", (X, X))], []), ((Y,), [("emp", (Y, Y))], []), ((Z,), [("boss", (Z, Z))], [])])
        told = task([(0, "add", ("p",))], views=[view])
        self.assertEqual(children(told, FIRST, ("missing", 0, ("p",))),
                         [([], [boss("p", "p")]), ([], [emp("p", "p")]), ([], [boss("p", "p")])])

    def test_two_ways_with_the_same_facts(self):
        view = (1, [((X,), [("emp", (X, Y)), ("emp", (X, Z))], [(Y, "!=", Z)])])
        told = task([(0, "add", ("p",))], views=[view], facts=[])
        self.assertEqual(children(told, FIRST, ("missing", 0, ("p",))), [
            ([], [emp("p", "a0"), emp("p", "p")]), ([], [emp("p", "a0"), emp("p", "p")]),
            ([], [emp("p", "a0"), emp("p", "a1")]),
        ])

    def test_a_fact_of_the_way_is_gone(self):
        found = children(task([ADD]), ([YD], []), MISSING)
        self.assertNotIn([emp("ann", "y"), YD], [must for _, must in found])
        self.assertEqual(len(found), 6)

    def test_a_fact_of_the_way_may_not_be_inserted(self):
        for may, must in [([ALL, (True, False)], [emp("ann", "y"), YD]), ([(True, False), ALL], [ANN, boss("x", "di")])]:
            self.assertEqual(children(task([ADD], may=may), FIRST, MISSING), [([], must)])
        self.assertEqual(children(task([ADD], may=[NONE, NONE]), FIRST, MISSING), [])
        # A fact that must stand may come, whatever may be inserted.
        self.assertEqual(children(task([ADD], may=[(True, False), ALL]), ([], [emp("ann", "bea")]), MISSING),
                         [([], [emp("ann", "bea"), boss("bea", "di")]),
                          ([], [emp("ann", "bea"), ANN, boss("x", "di")])])

    def test_two_facts_of_the_way_have_the_same_key(self):
        view = (1, [((X,), [("emp", (X, Y)), ("emp", (X, Z))], [])])
        told = task([(0, "add", ("p",))], views=[view], facts=[], schema=[("emp", 2, 1), ("boss", 2, None)])
        self.assertEqual(children(told, FIRST, ("missing", 0, ("p",))), [([], [emp("p", "p")]), ([], [emp("p", "a0")])])

    def test_a_fact_that_must_stand_has_the_same_key(self):
        told = keyed([ADD])
        self.assertEqual(children(told, ([], [ANN]), MISSING), [([], [ANN, boss("x", "di")])])
        self.assertEqual(children(told, ([ANN], [emp("ann", "a0")]), MISSING),
                         [([ANN], [emp("ann", "a0"), boss("a0", "di")])])

    def test_facts_with_the_same_key_are_gone(self):
        found = children(keyed([ADD]), FIRST, MISSING)
        words = ["ann", "bea", "cy", "di", "x", "y", "a0"]
        self.assertEqual(found, [([] if each == "x" else [ANN], ascending(SCHEMA, [emp("ann", each), boss(each, "di")]))
                                 for each in words])
        both = children(keyed([ADD], keys=(1, 1)), ([], [BEA]), MISSING)
        self.assertIn(([XC], [ANN, BEA, boss("x", "di")]), both)
        self.assertIn(([ANN], [emp("ann", "y"), BEA, YD]), both)

    def test_a_fact_that_would_be_gone_may_not_be_deleted(self):
        told = keyed([ADD], may=[(False, True), ALL])
        self.assertEqual(children(told, FIRST, MISSING), [([], [ANN, boss("x", "di")])])
        self.assertEqual(children(keyed([ADD], may=[(False, True), (False, True)], keys=(1, 1)), FIRST, MISSING), [])

    def test_a_row_that_is_there(self):
        node = ("missing", 0, ("bea", "di"))
        self.assertIn(([], [BEA, YD]), children(task(), FIRST, node))
        self.assertIn(([], [BEA, YD]), children(task(), ([], [BEA, YD]), node))

    def test_nodes_that_do_not_fit(self):
        for node in [("missing", 0, ("ann", "cy")), ("missing", 0, ("ann", "di")), ("missing", 0, ("q", "q"))]:
            self.assertIsNone(pure(self, children, task(), FIRST, node), node)

    def test_the_rows_are_those_of_the_view_with_the_place(self):
        told = task([(1, "add", ("q",))], views=[CHIEFS, (1, [((X,), [("emp", (X, X))], [])])])
        self.assertEqual(children(told, FIRST, ("missing", 1, ("q",))), [([], [emp("q", "q")])])
        told = task([(1, "add", ("ann", "di"))], views=[CHIEFS, CHIEFS])
        self.assertIsNone(children(told, FIRST, MISSING))
        self.assertIsNone(children(told, ([], [emp("ann", "y")]), ("extra", 1, ("ann", "di"), [emp("ann", "y"), YD])))
        self.assertEqual(children(told, ([], [emp("ann", "y")]), ("extra", 0, ("ann", "di"), [emp("ann", "y"), YD])),
                         [([YD], [emp("ann", "y")])])


class Wrong(unittest.TestCase):
    def test_settled_cases(self):
        self.assertIsNone(pure(self, wrong, task([]), FIRST))
        self.assertIsNone(wrong(task(), ([ANN], [])))
        self.assertIsNone(wrong(task([ADD]), ([], [emp("ann", "a0"), boss("a0", "di")])))
        self.assertIsNone(wrong(task([(0, "add", ("ann", "cy")), (0, "remove", ("q", "q"))]), FIRST))

    def test_extra_rows_and_missing_rows(self):
        self.assertEqual(pure(self, wrong, task(), FIRST), EXTRA)
        self.assertEqual(pure(self, wrong, task([ADD]), FIRST), MISSING)
        self.assertEqual(wrong(task([]), ([YD], [])), ("missing", 0, ("bea", "di")))
        self.assertEqual(wrong(task([]), ([], [emp("ann", "y")])), ("extra", 0, ("ann", "di"), [emp("ann", "y"), YD]))

    def test_what_the_node_names(self):
        case = ([XC], [emp("ann", "y")])
        told = task([(0, "add", ("zoe", "cy"))])
        node = wrong(told, case)
        self.assertIn(node, [("missing", 0, ("ann", "cy")), ("missing", 0, ("zoe", "cy")),
                             ("extra", 0, ("ann", "di"), [emp("ann", "y"), YD])])


class MadeTasks(unittest.TestCase):
    """Cases of made tasks, from the first one down, compared with what the points say word by word."""

    def nodes(self, told, case, rows):
        schema, _, views, _ = told
        found = [("missing", place, row) for place, every in enumerate(rows) for row in every]
        facts = plain_standing(told, case)
        for place, view in enumerate(views):
            for rule in view[1]:
                for each in plain_assignments(facts, rule):
                    witness = ascending(schema, [made(atom, dict(each)) for atom in rule[1]])
                    found.append(("extra", place, plain_row(rule, each), witness))
                    found.append(("extra", place, plain_row(rule, each), witness[::-1]))
        return found

    def walk(self, seed):
        told = made_task(seed)
        views, rows = told[2], wanted(told)
        case = first_case()
        for step in range(4):
            facts = plain_standing(told, case)
            self.assertEqual(standing(told, case), facts)
            self.assertEqual(change_of(told, case), (case[0], [fact for fact in case[1] if fact not in told[1]]))
            for node in self.nodes(told, case, rows)[seed % 3::3]:
                self.assertEqual(children(told, case, node), plain_children(told, case, node))
                for rule in views[node[1]][1]:
                    self.assertEqual(ways(told, case, rule, node[2]), plain_ways(told, case, rule, node[2]))
            node = wrong(told, case)
            now = [plain_view_rows(facts, view) for view in views]
            self.assertEqual(node is None, now == rows)
            if node is None:
                self.assertTrue(does(told, change_of(told, case)))
                return
            self.assertIn(node[2], (rows if node[0] == "missing" else now)[node[1]])
            self.assertNotIn(node[2], (now if node[0] == "missing" else rows)[node[1]])
            found = plain_children(told, case, node)
            self.assertIsNotNone(found)
            if not found:
                return
            case = found[(seed + step) % len(found)]

    def test_cases(self):
        for seed in range(300):
            self.walk(seed)

    def test_arguments_and_answers(self):
        for seed in range(30):
            told = made_task(seed)
            node = pure(self, wrong, told, FIRST)
            if node is not None:
                for case in pure(self, children, told, FIRST, node):
                    pure(self, standing, told, case)
                    pure(self, change_of, told, case)
                    pure(self, wrong, told, case)


class Interface(unittest.TestCase):
    def test_the_functions_are_defined_in_this_file(self):
        for function in [first_case, standing, change_of, ways, children, wrong]:
            self.assertEqual(function.__module__, cases.__name__)

    def test_the_names_of_the_arguments(self):
        self.assertEqual(standing(task=task(), case=FIRST), FACTS)
        self.assertEqual(change_of(task=task(), case=FIRST), FIRST)
        self.assertEqual(len(ways(task=task(), case=FIRST, rule=CHIEFS[1][0], row=("ann", "cy"))), 7)
        self.assertEqual(len(children(task=task(), case=FIRST, node=EXTRA)), 2)
        self.assertEqual(wrong(task=task(), case=FIRST), EXTRA)
