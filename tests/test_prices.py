import unittest
from unittest import mock

from helpers import U, X, Y, Z, made_task, plain_children, pure, small_changes
from wishshown import prices as prices_file
from wishshown import searching
from wishshown.cases import change_of, children, first_case
from wishshown.fresh import fresh_words, words_in_use
from wishshown.prices import bound_tree, cheapest, is_bound_tree, price_of
from wishshown.refuting import is_refutation, refute
from wishshown.searching import solve
from wishshown.tables import words_of
from wishshown.wishes import does

SCHEMA = [("emp", 2, None), ("boss", 2, None)]
ANN, BEA, XC = ("emp", ("ann", "x")), ("emp", ("bea", "x")), ("boss", ("x", "cy"))
FACTS = [ANN, BEA, XC]
CHIEFS = (2, [((X, Z), [("emp", (X, Y)), ("boss", (Y, Z))], [])])
STAFF = (1, [((X,), [("emp", (X, Y))], [])])
ALL, NONE = (True, True), (False, False)
FIRST = ([], [])
OFF_ANN, OFF_BEA = (0, "remove", ("ann", "cy")), (0, "remove", ("bea", "cy"))
BOTH = [OFF_ANN, OFF_BEA]
MOST = 1_000_000
DEAR = (("dear",), ())
EXTRA = ("extra", 0, ("ann", "cy"), [ANN, XC])
LOST = (("missing", 0, ("bea", "cy")), ())


def task(edits, may=(ALL, ALL), views=(CHIEFS,), facts=FACTS):
    return (SCHEMA, list(facts), list(views), (list(edits), list(may)))


def plain_price(told, prices, change):
    costs = {table[0]: pair for table, pair in zip(told[0], prices)}
    return sum(costs[fact[0]][side] for side in (0, 1) for fact in change[side])


def plain_is_bound_tree(told, case, tree, prices, bound):
    """What point 57 says, word by word."""
    node, trees = tree
    if node == ("dear",):
        return trees == () and plain_price(told, prices, change_of(told, case)) >= bound
    found = plain_children(told, case, node)
    if found is None or len(found) != len(trees):
        return False
    return all(plain_is_bound_tree(told, child, each, prices, bound) for child, each in zip(found, trees))


def made_prices(seed, told):
    """Prices by a fixed rule, 0 among them."""
    return [[(1, 1), (0, 5), (7, 2), (3, 0), (0, 0), (MOST, 9)][(seed + place * 5) % 6] for place in range(len(told[0]))]


def variants(tree):
    """The tree with a node changed, with a tree too few, one too many, or others, at any of its places."""
    node, trees = tree
    yield DEAR
    yield (node, trees + (DEAR,))
    yield (("missing", 0, ("q",)), trees)
    if trees:
        yield (node, trees[:-1])
        yield (node, trees[::-1])
    for place, each in enumerate(trees):
        for other in variants(each):
            yield (node, trees[:place] + (other,) + trees[place + 1:])


class Price(unittest.TestCase):
    def test_the_example(self):
        schema = [("pet", 2, 1), ("kind", 1, None)]
        change = ([("pet", ("ada", "cat"))], [("kind", ("dog",)), ("kind", ("fox",))])
        self.assertEqual(pure(self, price_of, schema, [(5, 7), (2, 3)], change), 11)

    def test_no_facts_and_several_tables(self):
        prices = [(5, 70), (600, 8000)]
        self.assertEqual(pure(self, price_of, SCHEMA, prices, FIRST), 0)
        for change, price in [(([ANN], []), 5), (([], [ANN]), 70), (([XC], []), 600), (([], [XC]), 8000),
                              (([ANN, BEA, XC], []), 610), (([], [ANN, BEA, XC]), 8140),
                              (([ANN, XC], [("emp", ("a", "b")), ("boss", ("c", "d")), ("boss", ("d", "d"))]), 16675)]:
            self.assertEqual(pure(self, price_of, SCHEMA, prices, change), price)

    def test_the_least_and_the_greatest_prices(self):
        change = ([ANN, BEA], [XC])
        self.assertEqual(price_of(SCHEMA, [(0, 0), (0, 0)], change), 0)
        self.assertEqual(price_of(SCHEMA, [(MOST, MOST), (MOST, MOST)], change), 3 * MOST)
        self.assertEqual(price_of(SCHEMA, [(MOST, 0), (0, 1)], change), 2 * MOST + 1)
        many = [("emp", (f"w{place}", "x")) for place in range(60)]
        self.assertEqual(price_of(SCHEMA, [(1, MOST), (1, 1)], ([], many)), 60 * MOST)


class Cheapest(unittest.TestCase):
    def check(self, told, prices, price):
        """Check an answer by what point 56 says of it; price is that of a cheapest change, or None."""
        answer = pure(self, cheapest, told, prices=prices)
        if price is None:
            self.assertIsNone(answer)
            self.assertIsNone(solve(told))
            return None
        self.assertEqual(answer[0], price)
        change = answer[1]
        self.assertTrue(does(told, change))
        self.assertEqual(plain_price(told, prices, change), price)
        used = words_in_use(told)
        new = {word for word in words_of(change[1]) if word not in used}
        self.assertEqual(new, set(fresh_words(used, len(new))))
        self.assertIsNone(bound_tree(told, prices=prices, bound=price + 1))
        self.assertIsNotNone(bound_tree(told, prices=prices, bound=price))
        return change

    def test_the_example(self):
        facts = [ANN, XC]
        told = task([OFF_ANN], facts=facts)
        self.assertEqual(pure(self, cheapest, told, prices=[(5, 1), (3, 1)]), (3, ([XC], [])))
        self.assertEqual(pure(self, cheapest, told, prices=[(3, 1), (5, 1)]), (3, ([ANN], [])))
        self.check(told, [(5, 1), (3, 1)], 3)

    def test_no_edits_and_a_wish_that_is_done_already(self):
        for edits in [[], [(0, "add", ("ann", "cy"))], [(0, "remove", ("ann", "di"))]]:
            for prices in [[(5, 1), (3, 1)], [(0, 0), (0, 0)], [(MOST, MOST), (MOST, MOST)]]:
                self.assertEqual(self.check(task(edits), prices, 0), FIRST)
        self.assertEqual(self.check(task([], [NONE, NONE]), [(1, 1), (1, 1)], 0), FIRST)

    def test_none(self):
        for prices in [[(5, 1), (3, 1)], [(0, 0), (0, 0)]]:
            self.check(task([OFF_ANN], [NONE, ALL]), prices, None)
            self.check(task([OFF_ANN], views=[CHIEFS, STAFF, (1, [((Y,), [("emp", (X, Y))], [])])]), prices, None)
            self.check(task([(0, "add", ("ann", "di"))], [(True, False)] * 2), prices, None)

    def test_more_facts_than_the_least_change(self):
        # One fact of boss or two of emp.
        told = task(BOTH)
        self.assertEqual(self.check(told, [(5, 1), (11, 1)], 10), ([ANN, BEA], []))
        self.assertEqual(self.check(told, [(5, 1), (9, 1)], 9), ([XC], []))
        self.assertEqual(len(solve(told)[0]), 1)
        self.check(told, [(5, 1), (10, 1)], 10)

    def test_deleting_costs_more_than_inserting(self):
        # STAFF keeps ANN and BEA: one of them gets another place.
        told = task([OFF_ANN], views=[CHIEFS, STAFF])
        change = self.check(told, [(1, 3), (1, 1)], 4)
        self.assertEqual(change, ([ANN], [("emp", ("ann", "a0"))]))
        # Here it is cheaper to give BEA another place with a boss of her own than to touch ANN.
        change = self.check(told, [(MOST, 3), (1, 1)], 1 + 3 + 1)
        self.assertEqual(change, ([XC], [("emp", ("bea", "a0")), ("boss", ("a0", "cy"))]))

    def test_all_prices_are_0(self):
        for edits in [[OFF_ANN], BOTH, [(0, "add", ("new", "di")), (0, "add", ("dot", "di"))]]:
            self.check(task(edits), [(0, 0), (0, 0)], 0)

    def test_fresh_words(self):
        change = self.check(task([(0, "add", ("new", "di"))]), [(1, 4), (1, 3)], 7)
        self.assertEqual(change, ([], [("emp", ("new", "a0")), ("boss", ("a0", "di"))]))
        facts = [ANN, BEA, XC, ("boss", ("a0", "a2"))]
        change = self.check(task([(0, "add", ("new", "di"))], [(False, True)] * 2, facts=facts), [(1, 4), (1, 3)], 7)
        self.assertIn(change[1][1][1][0], ["a1", "a0"])
        change = self.check(task([(0, "add", ("n", "d")), (0, "add", ("m", "e"))]), [(0, 0), (0, 3)], 6)
        self.assertEqual({word for word in words_of(change[1]) if word[0] == "a"}, {"a0", "a1"})

    def test_a_key(self):
        schema = [("emp", 2, 1), ("boss", 2, None)]
        facts = [ANN, XC, ("boss", ("y", "di"))]
        edits = [OFF_ANN, (0, "add", ("ann", "di"))]
        told = (schema, facts, [CHIEFS], (edits, [ALL, ALL]))
        self.assertEqual(self.check(told, [(4, 4), (5, 2)], 7)[0], [XC])
        self.assertEqual(self.check(told, [(1, 4), (5, 2)], 5), ([ANN], [("emp", ("ann", "y"))]))

    def test_a_key_makes_some_ways_dear(self):
        schema = [("b", 3, 1), ("c", 2, 2), ("a", 1, None)]
        facts = [("b", ("w1", "w4", "w5")), ("c", ("w6", "w4")), ("a", ("w3",)), ("a", ("w6",))]
        view = (1, [((Z,), [("c", (U, ("word", "w4"))), ("b", (X, Y, X)), ("a", (Z,))], [])])
        edits = [(0, "add", ("w0",)), (0, "add", ("w3",)), (0, "add", ("w6",))]
        told = (schema, facts, [view], (edits, [ALL] * 3))
        self.check(told, [(1000, 0), (3, 1000), (1000, 3)], 3)
        self.check(told, [(1000, 1), (3, 1000), (1000, 0)], 1)

    def test_cheapest_and_least_are_the_same_if_all_facts_cost_1(self):
        for seed in range(200):
            told = made_task(seed)
            change = solve(told)
            if change is not None:
                prices = [(1, 1)] * len(told[0])
                least = len(change[0] + change[1])
                self.assertEqual(cheapest(told, prices=prices)[0], least)
                self.assertIsNotNone(bound_tree(told, prices=prices, bound=least))

    def test_made_tasks(self):
        count = 0
        for seed in range(250):
            told = made_task(seed)
            for prices in [made_prices(seed, told), [(0, 0)] * len(told[0]), [(3, 3)] * len(told[0])]:
                answer = cheapest(told, prices=prices)
                self.assertIs(answer is None, solve(told) is None)
                if answer is not None:
                    price, change = answer
                    self.assertTrue(does(told, change))
                    self.assertEqual(plain_price(told, prices, change), price)
                    count += price > 0
            if answer is not None:
                self.assertEqual(answer[0], 3 * len(solve(told)[0] + solve(told)[1]))
        self.assertGreater(count, 50)

    def test_a_whole_search_finds_the_same_price(self):
        # Without the first attempts at an answer the search begins with no bound.
        for seed in range(250):
            told = made_task(seed)
            prices = made_prices(seed, told)
            answer = cheapest(told, prices=prices)
            with mock.patch.object(searching, "PROBES", ()):
                other = cheapest(told, prices=prices)
            self.assertIs(answer is None, other is None)
            if other is not None:
                self.assertEqual(other[0], answer[0])
                self.assertEqual(plain_price(told, prices, other[1]), answer[0])
                self.assertTrue(does(told, other[1]))

    def test_no_small_change_is_cheaper(self):
        count = 0
        for seed in range(120):
            told = made_task(seed, words=("a",), most=3)
            for number in range(2):
                prices = made_prices(seed + number, told)
                others = [plain_price(told, prices, change) for change in small_changes(told, 3, 1)]
                answer = cheapest(told, prices=prices)
                if answer is None:
                    self.assertEqual(others, [])
                elif others:
                    self.assertLessEqual(answer[0], min(others))
                    count += 1
        self.assertGreater(count, 50)


class BoundTree(unittest.TestCase):
    def check(self, told, prices, bound):
        tree = pure(self, bound_tree, told, prices=prices, bound=bound)
        if tree is not None:
            self.assertTrue(pure(self, is_bound_tree, told, FIRST, tree, prices=prices, bound=bound))
            self.assertTrue(plain_is_bound_tree(told, FIRST, tree, prices, bound))
        return tree

    def test_bounds_around_the_price_of_a_cheapest_change(self):
        told = task(BOTH)
        prices = [(5, 1), (11, 1)]
        for bound in [0, 1, 5, 6, 9, 10]:
            self.assertIsNotNone(self.check(told, prices, bound), bound)
        for bound in [11, 12, 100, 100_000_000]:
            self.assertIsNone(self.check(told, prices, bound), bound)

    def test_a_bound_of_0(self):
        for told in [task([]), task([OFF_ANN]), task([OFF_ANN], [NONE, NONE])]:
            for prices in [[(0, 0), (0, 0)], [(5, 1), (3, 1)]]:
                self.assertIsNotNone(self.check(told, prices, 0))
                self.assertTrue(is_bound_tree(told, FIRST, DEAR, prices=prices, bound=0))

    def test_no_edits_and_a_wish_that_is_done_already(self):
        for edits in [[], [(0, "add", ("ann", "cy"))]]:
            for bound in [1, 5, 100_000_000]:
                self.assertIsNone(self.check(task(edits), [(5, 1), (3, 1)], bound))

    def test_prices_that_are_all_0(self):
        for bound in [1, 100_000_000]:
            self.assertIsNone(self.check(task(BOTH), [(0, 0), (0, 0)], bound))
            self.assertIsNotNone(self.check(task(BOTH, [NONE, NONE]), [(0, 0), (0, 0)], bound))

    def test_a_task_that_no_change_can_do(self):
        told = task([OFF_ANN], [(True, False), (True, False)], [CHIEFS, STAFF])
        for bound in [0, 1, 3, 5, 6, 1000, 100_000_000]:
            tree = self.check(told, [(5, 1), (3, 1)], bound)
            self.assertIsNotNone(tree)
            if bound == 100_000_000:
                self.assertTrue(is_refutation(told, FIRST, tree), "no case costs so much")
            self.assertTrue(is_bound_tree(told, FIRST, refute(told), prices=[(5, 1), (3, 1)], bound=bound))

    def test_made_tasks(self):
        count = 0
        for seed in range(150):
            told = made_task(seed)
            prices = made_prices(seed, told)
            answer = cheapest(told, prices=prices)
            least = 100_000_000 if answer is None else answer[0]
            for bound in {0, 1, 3, least // 2, max(0, least - 1), least}:
                tree = bound_tree(told, prices=prices, bound=bound)
                self.assertIs(tree is None, bound > least)
                if tree is not None:
                    self.assertTrue(is_bound_tree(told, FIRST, tree, prices=prices, bound=bound))
                    self.assertTrue(plain_is_bound_tree(told, FIRST, tree, prices, bound))
                    count += tree[1] != ()
            if answer is not None:
                self.assertIsNone(bound_tree(told, prices=prices, bound=least + 1))
        self.assertGreater(count, 50)


class IsBoundTree(unittest.TestCase):
    PRICES = [(5, 1), (11, 1)]

    def told(self, told, case, tree, bound, prices=None):
        return pure(self, is_bound_tree, told, case, tree, prices=prices or self.PRICES, bound=bound)

    def test_dear_at_the_bound_above_it_and_below_it(self):
        told = task(BOTH)
        new = [("boss", ("y", "cy"))]
        for case, price in [(FIRST, 0), (([ANN], []), 5), (([ANN, BEA], []), 10), (([XC], []), 11), (([ANN], new), 6),
                            (([], new), 1), (([XC], new), 12), (([ANN], [BEA]), 5), (([], [ANN, BEA, XC]), 0)]:
            for bound in [0, price - 1, price, price + 1, 100_000_000]:
                if bound >= 0:
                    self.assertIs(self.told(told, case, DEAR, bound), price >= bound, (case, bound))

    def test_dear_has_no_trees(self):
        told = task(BOTH)
        self.assertIs(self.told(told, FIRST, (("dear",), (DEAR,)), 0), False)
        self.assertIs(self.told(told, ([XC], []), (("dear",), (LOST,)), 5), False)

    def test_a_tree_and_what_is_changed_of_it(self):
        told = task(BOTH)
        other = ("extra", 0, ("bea", "cy"), [BEA, XC])
        tree = (EXTRA, ((other, (DEAR, DEAR)), DEAR))
        self.assertIs(self.told(told, FIRST, tree, 10), True)
        self.assertIs(self.told(told, FIRST, tree, 11), False)
        self.assertIs(self.told(told, FIRST, tree, 9), True)
        self.assertIs(self.told(told, FIRST, (EXTRA, (DEAR, DEAR)), 5), True)
        self.assertIs(self.told(told, FIRST, (EXTRA, (DEAR, DEAR)), 6), False)
        for wrong in [(EXTRA, (tree[1][0],)), (EXTRA, tree[1] + (DEAR,)), (EXTRA, tree[1][::-1]), (EXTRA, ()),
                      (other, tree[1]), (EXTRA, ((other, (DEAR,)), DEAR)), (EXTRA, ((other, (DEAR, DEAR, DEAR)), DEAR)),
                      (("missing", 0, ("ann", "cy")), tree[1]), (("extra", 0, ("ann", "cy"), [ANN]), tree[1]),
                      (EXTRA, ((EXTRA, (DEAR, DEAR)), DEAR)), DEAR]:
            self.assertIs(self.told(told, FIRST, wrong, 10), False, wrong)

    def test_the_order_of_the_trees(self):
        told = task([OFF_ANN], [(True, False), (True, False)], [CHIEFS, STAFF])
        tree = (EXTRA, ((("missing", 1, ("ann",)), ()), LOST))
        self.assertIs(self.told(told, FIRST, tree, 100), True)
        self.assertIs(self.told(told, FIRST, (EXTRA, tree[1][::-1]), 100), False)
        self.assertIs(self.told(told, FIRST, (EXTRA, (DEAR, LOST)), 5), True)
        self.assertIs(self.told(told, FIRST, (EXTRA, (LOST, DEAR)), 5), False)
        self.assertIs(self.told(told, FIRST, (EXTRA, (tree[1][0], DEAR)), 11), True)

    def test_a_refutation_is_a_bound_tree_for_every_bound(self):
        count = 0
        for seed in range(150):
            told = made_task(seed)
            tree = refute(told)
            if tree is not None:
                for bound in [0, 1, 17, 100_000_000]:
                    self.assertIs(is_bound_tree(told, FIRST, tree, prices=made_prices(seed, told), bound=bound), True)
                count += 1
        self.assertGreater(count, 20)

    def test_trees_of_a_bound_tree_are_bound_trees_of_its_children(self):
        told = task(BOTH, views=[CHIEFS, STAFF])
        prices = [(5, 2), (11, 3)]
        tree = bound_tree(told, prices=prices, bound=11)
        found = children(told, first_case(), tree[0])
        self.assertNotEqual(found, [])
        for case, each in zip(found, tree[1]):
            self.assertIs(self.told(told, case, each, 11, prices), True)

    def test_made_tasks(self):
        wrong, right = 0, 0
        for seed in range(100):
            told = made_task(seed)
            prices = made_prices(seed, told)
            answer = cheapest(told, prices=prices)
            bound = 20 if answer is None else answer[0]
            tree = bound_tree(told, prices=prices, bound=bound)
            for other in list(variants(tree))[:30]:
                is_one = plain_is_bound_tree(told, FIRST, other, prices, bound)
                self.assertIs(is_bound_tree(told, FIRST, other, prices=prices, bound=bound), is_one)
                wrong += not is_one
                right += is_one
        self.assertGreater(wrong, 100)
        self.assertGreater(right, 10)

    def test_a_deep_tree(self):
        tree = LOST
        for _ in range(149):
            tree = (EXTRA, (tree, DEAR))
        self.assertIs(is_bound_tree(task([OFF_ANN]), FIRST, tree, prices=self.PRICES, bound=3), False)


class Interface(unittest.TestCase):
    def test_the_functions_are_defined_in_this_file(self):
        for function in [price_of, cheapest, bound_tree, is_bound_tree]:
            self.assertEqual(function.__module__, prices_file.__name__)

    def test_the_names_of_the_arguments(self):
        prices = [(1, 2), (3, 4)]
        self.assertEqual(price_of(schema=SCHEMA, prices=prices, change=FIRST), 0)
        self.assertEqual(cheapest(task=task([]), prices=prices), (0, FIRST))
        self.assertEqual(bound_tree(task=task([]), prices=prices, bound=0)[1], ())
        self.assertIs(is_bound_tree(task=task([]), case=FIRST, tree=DEAR, prices=prices, bound=1), False)
        for call in [lambda: cheapest(task([]), prices), lambda: bound_tree(task([]), prices, 0),
                     lambda: is_bound_tree(task([]), FIRST, DEAR, prices, 0)]:
            self.assertRaises(TypeError, call)
