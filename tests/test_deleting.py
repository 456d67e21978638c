import itertools
import unittest

from helpers import Maker, X, Y, Z, plain_view_rows, pure
from wishshown import deleting
from wishshown.deleting import gentlest, groups_of, is_exact_deletion, least_deletions, loss
from wishshown.hitting import hits, least_hitting_sets
from wishshown.views import view_rows

ANN, ANZ, BEA, XC, YC, ZC = (("emp", ("ann", "x")), ("emp", ("ann", "z")), ("emp", ("bea", "x")),
                             ("boss", ("x", "cy")), ("boss", ("y", "cy")), ("boss", ("z", "cy")))
# In the schema the table emp stands before the table boss.
FACTS = [ANN, ANZ, BEA, XC, YC, ZC]
FEWER = [ANN, BEA, XC]
CHIEFS = (2, [((X, Z), [("emp", (X, Y)), ("boss", (Y, Z))], [])])
PLACES = (1, [((Y,), [("emp", (X, Y))], [])])
VIEWS = [CHIEFS, PLACES]
BOTH = ["emp", "boss"]
OFF_ANN, OFF_BEA = (0, ("ann", "cy")), (0, ("bea", "cy"))


class Groups(unittest.TestCase):
    def test_one_removal(self):
        self.assertEqual(pure(self, groups_of, FACTS, VIEWS, [OFF_BEA], BOTH), [[BEA, XC]])

    def test_a_row_with_several_witnesses(self):
        self.assertEqual(groups_of(FACTS, VIEWS, [OFF_ANN], BOTH), [[ANN, XC], [ANZ, ZC]])

    def test_several_removals_in_their_order(self):
        self.assertEqual(pure(self, groups_of, FACTS, VIEWS, [OFF_BEA, (1, ("x",)), OFF_ANN], BOTH),
                         [[BEA, XC], [ANN], [BEA], [ANN, XC], [ANZ, ZC]])

    def test_tables_that_may_be_deleted_from(self):
        self.assertEqual(groups_of(FACTS, VIEWS, [OFF_ANN], ["boss"]), [[XC], [ZC]])
        self.assertEqual(groups_of(FACTS, VIEWS, [OFF_ANN, (1, ("x",))], ["emp"]), [[ANN], [ANZ], [ANN], [BEA]])
        self.assertEqual(groups_of(FACTS, VIEWS, [OFF_BEA, (1, ("x",))], ["boss"]), [[XC], [], []])
        self.assertEqual(groups_of(FACTS, VIEWS, [OFF_ANN], []), [[], []])

    def test_no_removals(self):
        self.assertEqual(groups_of(FACTS, VIEWS, [], BOTH), [])


class Loss(unittest.TestCase):
    def test_rows_that_are_lost_besides(self):
        self.assertEqual(pure(self, loss, FACTS, VIEWS, [OFF_ANN], [XC, ZC]), [OFF_BEA])
        self.assertEqual(loss(FACTS, VIEWS, [OFF_ANN], [ANN, ANZ]), [(1, ("z",))])
        self.assertEqual(loss(FACTS, VIEWS, [], FACTS), [OFF_ANN, OFF_BEA, (1, ("x",)), (1, ("z",))])
        self.assertEqual(loss(FACTS, VIEWS[::-1], [], FACTS),
                         [(0, ("x",)), (0, ("z",)), (1, ("ann", "cy")), (1, ("bea", "cy"))])

    def test_whether_the_removals_are_done_or_not(self):
        self.assertEqual(loss(FACTS, VIEWS, [OFF_ANN], [XC]), [OFF_BEA])
        self.assertEqual(loss(FACTS, VIEWS, [OFF_ANN], []), [])
        self.assertEqual(loss(FACTS, VIEWS, [OFF_ANN, OFF_BEA], [XC, ZC]), [])
        self.assertEqual(loss(FACTS, VIEWS, [OFF_BEA, OFF_ANN], [XC, ZC]), [])


class IsExact(unittest.TestCase):
    def told(self, removals, tables, deleted):
        return pure(self, is_exact_deletion, FACTS, VIEWS, removals, tables, deleted=deleted)

    def test_exact_ones_and_others(self):
        for deleted, told in [([ANN, ZC], True), ([ANN, YC, ZC], True), ([XC, ZC], False), ([ANN], False), ([], False),
                              ([ANN, ANZ], False), ([ANN, ANZ, ZC], False)]:
            self.assertIs(self.told([OFF_ANN], BOTH, deleted), told, deleted)
        self.assertIs(self.told([OFF_ANN, OFF_BEA], BOTH, [XC, ZC]), True)
        self.assertIs(self.told([], BOTH, []), True)
        self.assertIs(self.told([], BOTH, [YC]), True)
        self.assertIs(self.told([], BOTH, [XC]), False)

    def test_lists_that_are_no_deletions(self):
        self.assertIs(self.told([OFF_ANN], BOTH, [ZC, ANN]), False)
        self.assertIs(self.told([OFF_ANN], BOTH, [ANN, ANN, ZC]), False)
        self.assertIs(self.told([OFF_ANN], BOTH, [ANN, ZC, ZC]), False)
        self.assertIs(self.told([OFF_ANN], BOTH, [ANN, ("boss", ("q", "cy")), ZC]), False)
        self.assertIs(self.told([], BOTH, [("emp", ("ann", "y"))]), False)

    def test_tables_that_may_not_be_deleted_from(self):
        for tables, told in [(["boss", "emp"], True), (["emp"], False), (["boss"], False), ([], False)]:
            self.assertIs(self.told([OFF_ANN], tables, [ANN, ZC]), told)
        self.assertIs(self.told([OFF_ANN, OFF_BEA], ["boss"], [XC, ZC]), True)
        self.assertIs(self.told([], [], []), True)


class LeastDeletions(unittest.TestCase):
    def test_one_removal(self):
        self.assertEqual(pure(self, least_deletions, FACTS, VIEWS, [OFF_BEA], BOTH), [[BEA], [XC]])
        self.assertEqual(least_deletions(FEWER, VIEWS, [OFF_BEA], BOTH), [[BEA]])
        self.assertEqual(pure(self, least_deletions, FACTS, [CHIEFS], [OFF_ANN], BOTH), [[ANN, ANZ], [ANN, ZC]])

    def test_several_removals(self):
        self.assertEqual(least_deletions(FACTS, [CHIEFS], [OFF_ANN, OFF_BEA], BOTH),
                         [[ANN, ANZ, BEA], [ANN, BEA, ZC], [ANZ, XC], [XC, ZC]])
        self.assertEqual(least_deletions(FACTS, VIEWS, [OFF_ANN, OFF_BEA], BOTH), [[XC, ZC]])

    def test_the_order_is_that_of_the_database(self):
        # The groups of these removals name the later facts first.
        removals = [(0, ("b", "c")), (0, ("a", "c"))]
        facts = [("boss", ("p", "c")), ("boss", ("q", "c")), ("emp", ("a", "p")), ("emp", ("b", "q"))]
        told = [[facts[place] for place in places] for places in [(0, 1), (0, 3), (1, 2), (2, 3)]]
        self.assertEqual(least_deletions(facts, [CHIEFS], removals, BOTH), told)

    def test_no_deletion_is_exact(self):
        self.assertEqual(least_deletions(FACTS, VIEWS, [OFF_ANN], []), [])
        self.assertEqual(least_deletions(FEWER, VIEWS, [OFF_BEA], ["boss"]), [])
        self.assertEqual(least_deletions(FACTS, VIEWS, [(1, ("x",))], BOTH), [])

    def test_no_removals(self):
        self.assertEqual(least_deletions(FACTS, VIEWS, [], BOTH), [[]])
        self.assertEqual(least_deletions(FACTS, VIEWS, [], []), [[]])


class Gentlest(unittest.TestCase):
    def test_a_loss(self):
        self.assertEqual(pure(self, gentlest, FACTS, VIEWS, [OFF_BEA], ["boss"]), ([XC], []))
        self.assertEqual(gentlest(FEWER, VIEWS, [OFF_BEA], ["boss"]), ([XC], [OFF_ANN]))
        self.assertEqual(gentlest(FACTS, VIEWS, [OFF_ANN, OFF_BEA], ["emp"]),
                         ([ANN, ANZ, BEA], [(1, ("x",)), (1, ("z",))]))

    def test_the_first_one_of_those_with_the_shortest_loss(self):
        self.assertEqual(gentlest(FACTS, [CHIEFS], [OFF_ANN, OFF_BEA], BOTH), ([ANN, ANZ, BEA], []))
        self.assertEqual(gentlest(FACTS, VIEWS, [OFF_ANN, OFF_BEA], BOTH), ([XC, ZC], []))

    def test_no_deletion_does_the_removals(self):
        self.assertIsNone(gentlest(FACTS, VIEWS, [OFF_ANN], []))
        self.assertIsNone(gentlest(FACTS, VIEWS, [OFF_ANN, (1, ("x",))], ["boss"]))

    def test_no_removals(self):
        self.assertEqual(gentlest(FACTS, VIEWS, [], BOTH), ([], []))
        self.assertEqual(gentlest(FACTS, VIEWS, [], []), ([], []))


class MadeData(unittest.TestCase):
    """All deletions are tried, and what the points say of them is compared with the answers."""

    def check(self, seed):
        maker = Maker(seed)
        schema, words = maker.schema(), ["a", "b", "c"]
        facts = maker.holding(schema, words, 6)
        views = [maker.view(schema, words) for _ in range(maker.random.randint(1, 3))]
        rows = [(place, row) for place, view in enumerate(views) for row in view_rows(facts, view)]
        removals = maker.random.sample(rows, min(len(rows), maker.random.randint(0, 3)))
        tables = [table[0] for table in schema if maker.random.random() < 0.8]
        groups = groups_of(facts, views, removals, tables)
        done, exact = [], []
        for places in self.deletions(facts, tables):
            deleted = [facts[place] for place in places]
            left = [fact for fact in facts if fact not in deleted]
            now = {(place, row) for place, view in enumerate(views) for row in plain_view_rows(left, view)}
            lost = sorted(each for each in rows if each not in now and each not in removals)
            does = not now & set(removals)
            self.assertEqual(loss(facts, views, removals, deleted), lost)
            self.assertIs(is_exact_deletion(facts, views, removals, tables, deleted=deleted), does and not lost)
            self.assertIs(hits(deleted, groups), does)
            done.extend([(len(lost), places)] if does else [])
            exact.extend([places] if does and not lost else [])
        least = sorted(places for places in exact if not any(set(other) < set(places) for other in exact))
        told = [[facts[place] for place in places] for places in least]
        self.assertEqual(least_deletions(facts, views, removals, tables), told)
        sets = [{facts.index(fact) for fact in chosen} for chosen in least_hitting_sets(groups)]
        among = [(count, places) for count, places in done if set(places) in sets]
        found = gentlest(facts, views, removals, tables)
        if not among:
            self.assertIsNone(found)
            return False
        deletion = [facts[place] for place in min(among)[1]]
        self.assertEqual(found, (deletion, loss(facts, views, removals, deletion)))
        self.assertEqual(len(found[1]), min(done)[0])
        return len(found[1]) > 0

    def deletions(self, facts, tables):
        places = [place for place, fact in enumerate(facts) if fact[0] in tables]
        return [list(some) for count in range(len(places) + 1) for some in itertools.combinations(places, count)]

    def test_all_deletions(self):
        self.assertGreater(sum(self.check(seed) for seed in range(250)), 20)

    def test_many_witnesses(self):
        facts = [(name, ("a", f"x{place}")) for name in ["e", "f", "g"] for place in range(8)]
        atoms = [(name, (X, Y)) for name in ["e", "f", "g"]]
        found = least_deletions(facts, [(1, [((X,), atoms, [])])], [(0, ("a",))], ["e", "f", "g"])
        self.assertEqual(len(found), 3 ** 8)
        self.assertEqual(found[0], facts[:8])


class Interface(unittest.TestCase):
    def test_the_functions_are_defined_in_this_file(self):
        for function in [groups_of, loss, is_exact_deletion, least_deletions, gentlest]:
            self.assertEqual(function.__module__, deleting.__name__)

    def test_the_names_of_the_arguments(self):
        named = {"database": FACTS, "views": VIEWS, "removals": [OFF_BEA]}
        self.assertEqual(groups_of(**named, tables=BOTH), [[BEA, XC]])
        self.assertEqual(loss(**named, deletion=[BEA]), [])
        self.assertIs(is_exact_deletion(**named, tables=BOTH, deleted=[BEA]), True)
        self.assertEqual(least_deletions(**named, tables=BOTH), [[BEA], [XC]])
        self.assertEqual(gentlest(**named, tables=BOTH), ([BEA], []))
        with self.assertRaises(TypeError):
            is_exact_deletion(FACTS, VIEWS, [OFF_BEA], BOTH, [BEA])
