import copy
import unittest

from helpers import X, Y, Z, made_task, plain_children, pure
from wishshown import refuting
from wishshown.cases import children, first_case
from wishshown.refuting import depth, is_refutation, outline, refute, size
from wishshown.searching import solve

SCHEMA = [("emp", 2, None), ("boss", 2, None)]
ANN, BEA, XC = ("emp", ("ann", "x")), ("emp", ("bea", "x")), ("boss", ("x", "cy"))
FACTS = [ANN, BEA, XC]
CHIEFS = (2, [((X, Z), [("emp", (X, Y)), ("boss", (Y, Z))], [])])
STAFF = (1, [((X,), [("emp", (X, Y))], [])])
ALL, NONE = (True, True), (False, False)
FIRST = ([], [])
OFF_ANN, OFF_BEA = (0, "remove", ("ann", "cy")), (0, "remove", ("bea", "cy"))
EXTRA = ("extra", 0, ("ann", "cy"), [ANN, XC])
LEAF = (("missing", 0, ("bea", "cy")), ())


def task(edits, may=(NONE, (True, False)), views=(CHIEFS,), facts=FACTS):
    return (SCHEMA, list(facts), list(views), (list(edits), list(may)))


def plain_is_refutation(told, case, tree):
    node, trees = tree
    found = plain_children(told, case, node)
    if found is None or len(found) != len(trees):
        return False
    return all(plain_is_refutation(told, child, each) for child, each in zip(found, trees))


def plain_size(tree):
    return 1 + sum(plain_size(each) for each in tree[1])


def plain_depth(tree):
    return 1 + max([plain_depth(each) for each in tree[1]], default=0)


def variants(tree):
    """The tree with a node changed, with a tree too few, or with a tree too many, at any of its places."""
    node, trees = tree
    yield (("missing", node[1], ("q",) * len(node[2])), trees)
    yield (node, trees + (tree,))
    if trees:
        yield (node, trees[:-1])
        yield (node, trees[1:])
    for place, each in enumerate(trees):
        for other in variants(each):
            yield (node, trees[:place] + (other,) + trees[place + 1:])


class Refuting(unittest.TestCase):
    def test_the_example(self):
        view = (1, [((X,), [("emp", (X,))], [])])
        told = ([("emp", 1, None)], [("emp", ("ann",))], [view], ([(0, "remove", ("ann",))], [(False, True)]))
        tree = pure(self, refute, told)
        self.assertEqual(tree, (("extra", 0, ("ann",), [("emp", ("ann",))]), ()))
        self.assertEqual(outline(tree), ["extra 0 ann without emp:ann"])

    def test_a_wish_that_can_be_done(self):
        self.assertIsNone(pure(self, refute, task([])))
        self.assertIsNone(refute(task([OFF_ANN, OFF_BEA])))
        self.assertIsNone(refute(task([OFF_ANN], [(True, False), NONE])))

    def test_nothing_may_be_changed(self):
        self.assertEqual(pure(self, refute, task([OFF_ANN], [NONE, NONE])), (EXTRA, ()))
        tree = refute(task([(0, "add", ("ann", "di"))], [NONE, NONE]))
        self.assertEqual(tree, (("missing", 0, ("ann", "di")), ()))

    def test_another_row_is_lost(self):
        told = task([OFF_ANN])
        tree = pure(self, refute, told)
        self.assertTrue(pure(self, is_refutation, told, FIRST, tree))
        self.assertEqual(tree, (EXTRA, (LEAF,)))
        self.assertEqual(outline(tree), ["extra 0 ann,cy without emp:ann,x boss:x,cy", "  missing 0 bea,cy"])

    def test_several_levels(self):
        for told in [task([OFF_ANN], [ALL, (True, False)], [CHIEFS, STAFF]),
                     task([OFF_ANN], [ALL, ALL], [CHIEFS, (2, [((X, Y), [("emp", (X, Y))], [])])]),
                     task([OFF_ANN, OFF_BEA], [(True, False), (True, True)], [CHIEFS, STAFF, (1, [
                         ((Y,), [("boss", (X, Y))], [])])])]:
            tree = refute(told)
            self.assertIs(tree is None, solve(told) is not None)
            if tree is not None:
                self.assertTrue(plain_is_refutation(told, FIRST, tree))

    def test_made_tasks(self):
        refuted, deep = 0, 0
        for seed in range(500):
            told = made_task(seed)
            tree = refute(told)
            self.assertIs(tree is None, solve(told) is not None, "exactly one of them returns None")
            if tree is not None:
                self.assertTrue(is_refutation(told, FIRST, tree))
                self.assertTrue(plain_is_refutation(told, FIRST, tree))
                self.assertLessEqual(depth(tree), 150)
                refuted += 1
                deep += depth(tree) > 2
        self.assertGreater(refuted, 50)
        self.assertGreater(deep, 5)

    def test_a_hard_one(self):
        # One place for each name and one town for each place: nobody can be seen in two towns.
        schema = [("emp", 2, 1), ("boss", 2, None), ("loc", 2, 1)]
        facts = [("emp", ("n1", "d2")), ("emp", ("n2", "d3")), ("emp", ("n6", "d0")), ("boss", ("d0", "c0")),
                 ("boss", ("d0", "c2")), ("boss", ("d2", "c0")), ("boss", ("d2", "c2")), ("loc", ("d0", "t3")),
                 ("loc", ("d2", "t0")), ("loc", ("d3", "t2"))]
        town = (2, [((X, ("var", 3)), [("emp", (X, Y)), ("boss", (Y, Z)), ("loc", (Y, ("var", 3)))], [])])
        seen = (1, [((X,), [("emp", (X, Y))], []), ((X,), [("boss", (Y, X))], [])])
        edits = [(0, "remove", ("n6", "t3")), (1, "add", ("new",)), (0, "add", ("n1", "new"))]
        told = (schema, facts, [town, seen], (edits, [ALL] * 3))
        self.assertIsNone(solve(told))
        tree = refute(told)
        self.assertTrue(is_refutation(told, FIRST, tree))
        self.assertLess(size(tree), 20000)

    def test_arguments_and_answers(self):
        for seed in range(60):
            told = made_task(seed)
            tree = pure(self, refute, told)
            if tree is not None:
                self.assertTrue(pure(self, is_refutation, told, FIRST, tree))


class IsRefutation(unittest.TestCase):
    def test_a_tree_and_what_is_changed_of_it(self):
        told = task([OFF_ANN])
        tree = (EXTRA, (LEAF,))
        self.assertIs(pure(self, is_refutation, told, FIRST, tree), True)
        for other in [(EXTRA, ()), (EXTRA, (LEAF, LEAF)), (LEAF[0], ()), (LEAF[0], (LEAF,)), LEAF,
                      (("extra", 0, ("bea", "cy"), [BEA, XC]), (LEAF,)),
                      (("extra", 0, ("ann", "cy"), [XC, ANN]), (LEAF,)),
                      (("extra", 0, ("ann", "cy"), [ANN]), (LEAF,)),
                      (EXTRA, ((("missing", 0, ("ann", "cy")), ()),)), (EXTRA, ((EXTRA, ()),)),
                      (EXTRA, ((LEAF[0], (LEAF,)),))]:
            self.assertIs(pure(self, is_refutation, told, FIRST, other), False, other)

    def test_another_case(self):
        told = task([OFF_ANN])
        tree = (EXTRA, (LEAF,))
        self.assertIs(pure(self, is_refutation, told, ([XC], []), LEAF), True)
        self.assertIs(is_refutation(told, ([XC], []), tree), False)
        self.assertIs(is_refutation(told, ([], [XC]), tree), False)
        self.assertIs(is_refutation(told, ([], [XC]), (EXTRA, ())), True)
        self.assertIs(is_refutation(told, ([], [ANN]), tree), True)
        self.assertIs(is_refutation(told, FIRST, LEAF), False)

    def test_another_task(self):
        tree = (EXTRA, (LEAF,))
        self.assertIs(is_refutation(task([OFF_ANN, OFF_BEA]), FIRST, tree), False)
        self.assertIs(is_refutation(task([]), FIRST, tree), False)
        self.assertIs(is_refutation(task([OFF_ANN], [(True, False), (True, False)]), FIRST, tree), False)
        self.assertIs(is_refutation(task([OFF_ANN], [NONE, ALL]), FIRST, tree), True)
        self.assertIs(is_refutation(task([OFF_ANN], [(False, True), ALL]), FIRST, tree), False)

    def test_the_order_of_the_trees(self):
        told = task([OFF_ANN], [(True, False), (True, False)], [CHIEFS, STAFF])
        tree = (EXTRA, ((("missing", 1, ("ann",)), ()), LEAF))
        self.assertIs(is_refutation(told, FIRST, tree), True)
        self.assertIs(is_refutation(told, FIRST, (EXTRA, tree[1][::-1])), False)

    def test_trees_of_a_refutation_are_refutations_of_its_children(self):
        for seed in range(200):
            told = made_task(seed)
            tree = refute(told)
            if tree is not None:
                found = children(told, FIRST, tree[0])
                self.assertTrue(all(is_refutation(told, case, each) for case, each in zip(found, tree[1])))
                if tree[1]:
                    self.assertIs(is_refutation(told, found[0], tree), plain_is_refutation(told, found[0], tree))

    def test_made_tasks(self):
        wrong = 0
        for seed in range(150):
            told = made_task(seed)
            tree = refute(told)
            for other in list(variants(tree))[:40] if tree is not None else []:
                self.assertIs(is_refutation(told, first_case(), other), plain_is_refutation(told, FIRST, other))
                wrong += not is_refutation(told, first_case(), other)
        self.assertGreater(wrong, 50)

    def test_a_deep_tree(self):
        tree = LEAF
        for _ in range(149):
            tree = (EXTRA, (tree,))
        self.assertIs(is_refutation(task([OFF_ANN]), FIRST, tree), False)
        self.assertEqual((size(tree), depth(tree), len(outline(tree))), (150, 150, 150))


class Trees(unittest.TestCase):
    ONE = (("missing", 0, ("a",)), ())
    TWO = (("extra", 1, ("a", "b"), [("emp", ("a", "x")), ("one", ("b",))]), (ONE,))
    MANY = (("missing", 12, ("p", "q", "r", "s")), (TWO, ONE, (("missing", 3, ("z",)), (TWO, ONE))))

    def test_size(self):
        for tree, told in [(self.ONE, 1), (self.TWO, 2), (self.MANY, 8)]:
            self.assertEqual(pure(self, size, tree), told)

    def test_depth(self):
        for tree, told in [(self.ONE, 1), (self.TWO, 2), (self.MANY, 4), ((self.ONE[0], (self.ONE, self.ONE)), 2)]:
            self.assertEqual(pure(self, depth, tree), told)

    def test_outline(self):
        self.assertEqual(pure(self, outline, self.ONE), ["missing 0 a"])
        self.assertEqual(pure(self, outline, self.TWO), ["extra 1 a,b without emp:a,x one:b", "  missing 0 a"])
        self.assertEqual(pure(self, outline, self.MANY), [
            "missing 12 p,q,r,s",
            "  extra 1 a,b without emp:a,x one:b",
            "    missing 0 a",
            "  missing 0 a",
            "  missing 3 z",
            "    extra 1 a,b without emp:a,x one:b",
            "      missing 0 a",
            "    missing 0 a",
        ])

    def test_made_trees(self):
        for seed in range(200):
            tree = refute(made_task(seed))
            if tree is not None:
                before = copy.deepcopy(tree)
                self.assertEqual((size(tree), depth(tree)), (plain_size(tree), plain_depth(tree)))
                self.assertEqual(len(outline(tree)), size(tree))
                self.assertEqual(tree, before)


class Interface(unittest.TestCase):
    def test_the_functions_are_defined_in_this_file(self):
        for function in [refute, is_refutation, size, depth, outline]:
            self.assertEqual(function.__module__, refuting.__name__)

    def test_the_names_of_the_arguments(self):
        self.assertIsNone(refute(task=task([])))
        self.assertIs(is_refutation(task=task([]), case=FIRST, tree=LEAF), False)
        self.assertEqual(size(tree=LEAF), 1)
        self.assertEqual(depth(tree=LEAF), 1)
        self.assertEqual(outline(tree=LEAF), ["missing 0 bea,cy"])
