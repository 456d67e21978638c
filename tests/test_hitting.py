import itertools
import random
import unittest

from helpers import pure
from wishshown import hitting
from wishshown.hitting import hits, is_least, least_hitting_sets, minimal_groups, shrink, smallest_hitting_set

F, G, H = ("emp", ("ann", "x")), ("emp", ("bea", "y")), ("boss", ("x", "cy"))


def deep(levels):
    item = ("x",)
    for _ in range(levels):
        item = (item, "x")
    return item


def items_of(groups):
    found = []
    for group in groups:
        found.extend(item for item in group if item not in found)
    return found


def plain_least(groups):
    """The places of the items of each least hitting set, by trying all lists of items."""
    items = items_of(groups)
    found = []
    for count in range(len(items) + 1):
        for places in itertools.combinations(range(len(items)), count):
            chosen = [items[place] for place in places]
            every = all(set(chosen) & set(group) for group in groups)
            if every and not any(set(chosen) - {item} >= set(rest) for item in chosen for rest in [
                    [items[place] for place in other] for other in found]):
                found.append(list(places))
    return sorted(found)


def made_groups(seed):
    maker = random.Random(seed)
    items = [f"s{place}" if place % 2 else ("t", (f"{place}", "x")) for place in range(maker.randint(1, 7))]
    least = 0 if maker.random() < 0.1 else 1
    return [maker.sample(items, maker.randint(least, min(4, len(items)))) for _ in range(maker.randint(0, 6))]


class Hits(unittest.TestCase):
    def test_strings_and_tuples(self):
        for groups in [[["a", "b"], ["b", "c"]], [[F, G], [G, H]], [["a", F], [F, "c"]]]:
            first, second, third = items_of(groups)
            for chosen, told in [([second], True), ([first, third], True), ([third, second], True), ([first], False),
                                 ([third], False), ([], False)]:
                self.assertIs(pure(self, hits, chosen, groups), told)

    def test_items_of_no_group(self):
        self.assertIs(hits(["z"], [["a"]]), False)
        self.assertIs(hits(["z", "a", F], [["a"]]), True)
        self.assertIs(hits([("a",)], [["a"]]), False)
        self.assertIs(hits(["z"], []), True)

    def test_no_groups_and_an_empty_group(self):
        self.assertIs(hits([], []), True)
        self.assertIs(hits([], [[]]), False)
        self.assertIs(hits(["a"], [["a"], []]), False)

    def test_deep_items(self):
        self.assertIs(hits([deep(40)], [[deep(40)]]), True)
        self.assertIs(hits([deep(40)], [[deep(39)]]), False)


class IsLeast(unittest.TestCase):
    def test_ordinary_ones(self):
        groups = [["a", "b"], ["b", F]]
        for chosen, told in [(["b"], True), (["a", F], True), ([F, "a"], True), (["a", "b"], False), (["a"], False),
                             (["b", F], False), ([], False), (["a", "b", F], False)]:
            self.assertIs(pure(self, is_least, chosen, groups), told)

    def test_edges(self):
        self.assertIs(is_least([], []), True)
        self.assertIs(is_least([], [[]]), False)
        self.assertIs(is_least(["a"], [["a"], []]), False)
        self.assertIs(is_least(["a"], [["a"], ["a", "b"], ["b", "a"]]), True)


class Shrink(unittest.TestCase):
    def test_from_the_first_to_the_last(self):
        groups = [["a", "b"], ["b", "c"]]
        self.assertEqual(pure(self, shrink, ["a", "b", "c"], groups), ["b"])
        self.assertEqual(shrink(["b", "a", "c"], groups), ["a", "c"])
        self.assertEqual(shrink(["a", "c", "b"], groups), ["b"])
        self.assertEqual(shrink(["c", "b"], groups), ["b"])
        self.assertEqual(shrink([G, F, H], [[F, G], [H, G]]), [F, H])

    def test_the_order_stays(self):
        groups = [["a"], ["b"], ["c"], ["d", "a"]]
        self.assertEqual(shrink(["d", "c", "a", "b"], groups), ["c", "a", "b"])

    def test_edges(self):
        self.assertEqual(pure(self, shrink, [], []), [])
        self.assertEqual(shrink(["a"], [["a"]]), ["a"])
        self.assertEqual(shrink(["a", "b"], []), [])

    def test_made_groups(self):
        for seed in range(200):
            groups = made_groups(seed)
            items = items_of(groups)
            if [] not in groups:
                left = shrink(items[::-1], groups)
                self.assertTrue(is_least(left, groups))
                self.assertEqual(left, [item for item in items[::-1] if item in left])


class MinimalGroups(unittest.TestCase):
    def test_equal_groups_in_another_order(self):
        self.assertEqual(pure(self, minimal_groups, [["a", "b"], ["b", "a"], ["a", "b"]]), [["a", "b"]])
        self.assertEqual(minimal_groups([[G, F], ["c"], [F, G]]), [[G, F], ["c"]])

    def test_groups_inside_of_one_another(self):
        self.assertEqual(minimal_groups([["a", "b", "c"], ["b", "a"], ["c", "d"]]), [["b", "a"], ["c", "d"]])
        self.assertEqual(minimal_groups([["a"], ["a", "b"], ["b"], ["b", "c", "a"]]), [["a"], ["b"]])
        self.assertEqual(minimal_groups([["a", "b", "c"], ["b", "c"], ["c"]]), [["c"]])

    def test_edges(self):
        self.assertEqual(pure(self, minimal_groups, []), [])
        self.assertEqual(minimal_groups([["a"], [], ["b"], []]), [[]])
        self.assertEqual(minimal_groups([[deep(40), "a"], [deep(40)]]), [[deep(40)]])

    def test_made_groups(self):
        for seed in range(300):
            groups = made_groups(seed)
            told = [group for place, group in enumerate(groups)
                    if not any(set(other) < set(group) for other in groups)
                    and not any(set(other) == set(group) for other in groups[:place])]
            self.assertEqual(minimal_groups(groups), told)


class LeastHittingSets(unittest.TestCase):
    def test_the_examples(self):
        self.assertEqual(pure(self, least_hitting_sets, [["a", "b"], ["b", "c"]]), [["a", "c"], ["b"]])
        self.assertEqual(least_hitting_sets([]), [[]])
        self.assertEqual(least_hitting_sets([["a"], []]), [])

    def test_the_order_is_that_of_the_places(self):
        self.assertEqual(least_hitting_sets([["z", "a"], ["m", "b"]]), [["z", "m"], ["z", "b"], ["a", "m"], ["a", "b"]])
        # The places go by the first time that an item is read.
        self.assertEqual(least_hitting_sets([["z", "a"], ["b", "z"], ["a", "b"]]), [["z", "a"], ["z", "b"], ["a", "b"]])
        self.assertEqual(least_hitting_sets([[H, F], [G, F]]), [[H, G], [F]])

    def test_groups_without_common_items(self):
        groups = [[f"{place}{letter}" for letter in "cab"] for place in range(6)]
        self.assertEqual(pure(self, least_hitting_sets, groups), [list(each) for each in itertools.product(*groups)])

    def test_one_item_in_all_groups(self):
        groups = [["a", F, "b"], ["c", F], [F, "d"]]
        found = least_hitting_sets(groups)
        self.assertEqual(found, [["a", "c", "d"], [F], ["b", "c", "d"]])

    def test_an_empty_group(self):
        self.assertEqual(least_hitting_sets([[]]), [])
        self.assertEqual(least_hitting_sets([["a", "b"], [], ["c"]]), [])

    def test_deep_items(self):
        self.assertEqual(least_hitting_sets([[deep(30), deep(20)], [deep(20)]]), [[deep(20)]])

    def test_made_groups(self):
        for seed in range(400):
            groups = made_groups(seed)
            items = items_of(groups)
            told = [[items[place] for place in places] for places in plain_least(groups)]
            found = least_hitting_sets(groups)
            self.assertEqual(found, told)
            self.assertTrue(all(is_least(chosen, groups) for chosen in found))
            if found:
                # The least hitting sets of the least hitting sets are the minimal groups.
                again = {frozenset(group) for group in least_hitting_sets(found)}
                self.assertEqual(again, {frozenset(group) for group in minimal_groups(groups)})

    def test_many(self):
        groups = [[f"{place}{letter}" for letter in each] for place in range(3) for each in ("abc", "abd", "acd", "bcd")]
        found = least_hitting_sets(groups)
        self.assertEqual(len(found), 6 ** 3)


class SmallestHittingSet(unittest.TestCase):
    def test_the_groups_of_the_examples(self):
        self.assertEqual(pure(self, smallest_hitting_set, [["a", "b"], ["b", "c"]]), ["b"])
        self.assertEqual(smallest_hitting_set([]), [])
        self.assertIsNone(smallest_hitting_set([["a"], []]))

    def test_the_first_one_in_the_order(self):
        self.assertEqual(smallest_hitting_set([["z", "a"], ["m", "b"]]), ["z", "m"])
        self.assertEqual(smallest_hitting_set([["d", "a"], ["b", "a"], ["b", "c"]]), ["d", "b"])
        self.assertEqual(smallest_hitting_set([[G, F], [F, H]]), [F])

    def test_groups_without_common_items(self):
        groups = [[f"{place}{letter}" for letter in "cab"] for place in range(40)]
        self.assertEqual(smallest_hitting_set(groups), [group[0] for group in groups])

    def test_one_item_in_all_groups(self):
        groups = [[f"a{place}", "z", f"b{place}"] for place in range(30)]
        self.assertEqual(smallest_hitting_set(groups), ["z"])

    def test_no_list_hits_the_groups(self):
        self.assertIsNone(smallest_hitting_set([[]]))
        self.assertIsNone(smallest_hitting_set([["a"], ["b", "c"], []]))

    def test_made_groups(self):
        for seed in range(400):
            groups = made_groups(seed)
            items = items_of(groups)
            found = plain_least(groups)
            if found:
                least = min(len(places) for places in found)
                first = [places for places in found if len(places) == least][0]
                self.assertEqual(smallest_hitting_set(groups), [items[place] for place in first])
            else:
                self.assertIsNone(smallest_hitting_set(groups))


class Interface(unittest.TestCase):
    def test_the_functions_are_defined_in_this_file(self):
        for function in [hits, is_least, shrink, minimal_groups, least_hitting_sets, smallest_hitting_set]:
            self.assertEqual(function.__module__, hitting.__name__)

    def test_the_names_of_the_arguments(self):
        self.assertIs(hits(chosen=["a"], groups=[["a"]]), True)
        self.assertIs(is_least(chosen=["a"], groups=[["a"]]), True)
        self.assertEqual(shrink(chosen=["a"], groups=[["a"]]), ["a"])
        self.assertEqual(minimal_groups(groups=[["a"]]), [["a"]])
        self.assertEqual(least_hitting_sets(groups=[["a"]]), [["a"]])
        self.assertEqual(smallest_hitting_set(groups=[["a"]]), ["a"])
