import itertools
import unittest

from helpers import X, Y, Z, Maker, plain_view_rows, pure
from wishshown import mending
from wishshown.mending import (
    certain_rows, count_mends, count_of, is_mend, mends, possible_rows, possible_witnesses, rivalries, show_disputed,
)
from wishshown.tables import ascending, keys_hold, same_key
from wishshown.views import view_rows, witnesses

SCHEMA = [("pet", 2, 1), ("kind", 1, None)]
CAT, DOG, FOX = ("pet", ("ada", "cat")), ("pet", ("ada", "dog")), ("pet", ("ada", "fox"))
BO_CAT, BO_DOG, CY_CAT = ("pet", ("bo", "cat")), ("pet", ("bo", "dog")), ("pet", ("cy", "cat"))
KIND, OTHER = ("kind", ("cat",)), ("kind", ("dog",))
OWNERS = (1, [((X,), [("pet", (X, Y))], [])])
KINDS = (1, [((Y,), [("pet", (X, Y)), ("kind", (Y,))], [])])
PAIRS = (2, [((X, Y), [("pet", (X, Z)), ("pet", (Y, Z))], [(X, "!=", Y)])])
BOTH = [CAT, DOG, BO_CAT, BO_DOG, CY_CAT, KIND]


def plain_mends(schema, facts):
    """All parts in which the keys hold and with which no further fact can be put, in order."""
    found = []
    for count in range(len(facts) + 1):
        for places in itertools.combinations(range(len(facts)), count):
            part = [facts[place] for place in places]
            more = [ascending(schema, part + [fact]) for fact in facts if fact not in part]
            if keys_hold(schema, part) and not any(keys_hold(schema, each) for each in more):
                found.append((list(places), part))
    return [part for _, part in sorted(found)]


def made_data(seed, most=8):
    maker = Maker(seed)
    schema = maker.schema()
    words = ["a", "b", "c"][:maker.random.randint(2, 3)]
    return (schema, maker.facts(schema, words, most), maker.view(schema, words))


class Rivalries(unittest.TestCase):
    def test_none(self):
        for facts in [[], [CAT], [CAT, BO_CAT, CY_CAT], [KIND, OTHER], [CAT, KIND, OTHER]]:
            self.assertEqual(pure(self, rivalries, SCHEMA, facts), [])
            self.assertEqual(pure(self, count_mends, SCHEMA, facts), 1)
            self.assertEqual(pure(self, mends, SCHEMA, facts), [facts])

    def test_no_keys(self):
        schema = [("pet", 2, None), ("kind", 1, None)]
        self.assertEqual(pure(self, rivalries, schema, BOTH), [])
        self.assertEqual(mends(schema, BOTH), [BOTH])

    def test_all_facts_have_one_key(self):
        facts = [CAT, DOG, FOX]
        self.assertEqual(pure(self, rivalries, SCHEMA, facts), [facts])
        self.assertEqual(pure(self, count_mends, SCHEMA, facts), 3)
        self.assertEqual(pure(self, mends, SCHEMA, facts), [[CAT], [DOG], [FOX]])

    def test_several_rivalries(self):
        self.assertEqual(pure(self, rivalries, SCHEMA, BOTH), [[CAT, DOG], [BO_CAT, BO_DOG]])
        self.assertEqual(pure(self, count_mends, SCHEMA, BOTH), 4)
        self.assertEqual(pure(self, mends, SCHEMA, BOTH), [
            [CAT, BO_CAT, CY_CAT, KIND], [CAT, BO_DOG, CY_CAT, KIND],
            [DOG, BO_CAT, CY_CAT, KIND], [DOG, BO_DOG, CY_CAT, KIND]])

    def test_keys_of_several_columns_and_tables(self):
        schema = [("deal", 3, 2), ("pet", 2, 1), ("kind", 1, 1)]
        one, two, three = ("deal", ("a", "b", "c")), ("deal", ("a", "b", "d")), ("deal", ("a", "c", "d"))
        facts = [one, two, three, ("pet", ("a", "b")), ("pet", ("a", "c")), ("kind", ("a",))]
        self.assertEqual(pure(self, rivalries, schema, facts), [[one, two], facts[3:5]])
        self.assertEqual(count_mends(schema, facts), 4)
        # A key that is as wide as the table makes no rivalries.
        self.assertEqual(rivalries([("pet", 2, 2)], [CAT, DOG]), [])

    def test_rivals_that_do_not_stand_side_by_side(self):
        schema = [("pet", 2, 1), ("kind", 1, None)]
        facts = ascending(schema, [("pet", (name, word)) for name in ("c", "a", "b") for word in ("p", "q")])
        self.assertEqual([pair[0][1][0] for pair in rivalries(schema, facts)], ["a", "b", "c"])


class Mends(unittest.TestCase):
    def test_the_example(self):
        told = pure(self, mends, SCHEMA, [CAT, DOG, KIND])
        self.assertEqual(told, [[CAT, KIND], [DOG, KIND]])

    def test_no_facts(self):
        self.assertEqual(pure(self, mends, SCHEMA, []), [[]])
        self.assertEqual(pure(self, count_mends, SCHEMA, []), 1)
        self.assertIs(pure(self, is_mend, SCHEMA, [], []), True)

    def test_twelve_facts(self):
        for sizes in [(3, 3, 3, 3), (2,) * 6, (12,), (1,) * 12, (5, 4, 2, 1)]:
            facts = [("pet", (f"n{at}", f"w{number}")) for at, size in enumerate(sizes) for number in range(size)]
            told = pure(self, mends, SCHEMA, facts)
            self.assertEqual(told, plain_mends(SCHEMA, facts))
            self.assertEqual(count_mends(SCHEMA, facts), len(told))
            self.assertEqual([len(each) for each in rivalries(SCHEMA, facts)], [size for size in sizes if size > 1])

    def test_made_facts(self):
        several = 0
        for seed in range(200):
            schema, facts, _ = made_data(seed)
            told = mends(schema, facts)
            self.assertEqual(told, plain_mends(schema, facts))
            self.assertEqual(count_mends(schema, facts), len(told))
            for rivalry in rivalries(schema, facts):
                self.assertTrue(all(same_key(schema, rivalry[0], each) for each in rivalry))
                self.assertTrue(all(len([fact for fact in rivalry if fact in part]) == 1 for part in told))
            several += len(told) > 2
        self.assertGreater(several, 10)


class IsMend(unittest.TestCase):
    def told(self, part, facts=BOTH):
        return pure(self, is_mend, SCHEMA, facts, part)

    def test_mends(self):
        for part in mends(SCHEMA, BOTH):
            self.assertIs(self.told(part), True)

    def test_a_part_that_is_no_part_of_the_facts(self):
        self.assertIs(self.told([CAT, BO_CAT, CY_CAT, KIND, OTHER]), False)
        self.assertIs(self.told([FOX, BO_CAT, CY_CAT, KIND]), False)
        self.assertIs(self.told([KIND], []), False)
        self.assertIs(self.told([CAT], [DOG]), False)

    def test_two_facts_of_a_rivalry(self):
        self.assertIs(self.told([CAT, DOG, BO_CAT, CY_CAT, KIND]), False)
        self.assertIs(self.told(BOTH), False)

    def test_a_fact_too_few(self):
        for part in mends(SCHEMA, BOTH):
            for fact in part:
                self.assertIs(self.told([each for each in part if each != fact]), False)
        self.assertIs(self.told([]), False)

    def test_all_parts(self):
        for seed in range(60):
            schema, facts, _ = made_data(seed, 6)
            every = plain_mends(schema, facts)
            for count in range(len(facts) + 1):
                for part in itertools.combinations(facts, count):
                    self.assertIs(is_mend(schema, facts, list(part)), list(part) in every)


class Rows(unittest.TestCase):
    def check(self, facts, view, certain, disputed, schema=SCHEMA):
        """Check what is told of the rows of the view."""
        self.assertEqual(pure(self, certain_rows, schema, facts, view), certain)
        self.assertEqual(pure(self, possible_rows, schema, facts, view), sorted(certain + disputed))
        every = mends(schema, facts)
        for row in certain + disputed + [("q",) * view[0]]:
            having = [mend for mend in every if row in plain_view_rows(mend, view)]
            others = [mend for mend in every if row not in plain_view_rows(mend, view)]
            self.assertEqual(pure(self, count_of, schema, facts, view, row), len(having))
            told = pure(self, show_disputed, schema, facts, view, row)
            self.assertEqual(told, (having[0], others[0]) if row in disputed else None)

    def test_certain_disputed_and_never(self):
        self.check([CAT, DOG, KIND], OWNERS, [("ada",)], [])
        self.check([CAT, DOG, KIND], KINDS, [], [("cat",)])
        self.check([CAT, DOG, KIND, OTHER], KINDS, [], [("cat",), ("dog",)])
        self.check([CAT, DOG, BO_CAT, KIND], KINDS, [("cat",)], [])
        self.check(BOTH, PAIRS, [], sorted(itertools.permutations(["ada", "bo", "cy"], 2)))
        self.check([CAT, OTHER], KINDS, [], [])

    def test_a_row_that_always_has_a_witness_but_not_always_the_same(self):
        view = (1, [((("word", "yes"),), [("pet", (X, ("word", "cat")))], []),
                    ((("word", "yes"),), [("pet", (X, ("word", "dog")))], [])])
        self.check([CAT, DOG], view, [("yes",)], [])
        self.check([CAT, DOG, FOX], view, [], [("yes",)])

    def test_a_witness_of_two_rivals(self):
        # The row is one of the view in the whole list, but in no mend.
        view = (2, [((Y, Z), [("pet", (X, Y)), ("pet", (X, Z))], [(Y, "!=", Z)])])
        self.assertEqual(view_rows([CAT, DOG], view), [("cat", "dog"), ("dog", "cat")])
        self.check([CAT, DOG], view, [], [])
        self.assertEqual(pure(self, possible_witnesses, SCHEMA, [CAT, DOG], view, ("cat", "dog")), [])
        self.assertEqual(count_of(SCHEMA, [CAT, DOG], view, ("cat", "dog")), 0)

    def test_the_keys_hold(self):
        facts = [CAT, BO_CAT, KIND]
        for view in [OWNERS, KINDS, PAIRS]:
            rows = view_rows(facts, view)
            self.check(facts, view, rows, [])
            for row in rows:
                self.assertEqual(count_of(SCHEMA, facts, view, row), 1)
                self.assertEqual(possible_witnesses(SCHEMA, facts, view, row), witnesses(facts, view, row))

    def test_no_facts(self):
        for view in [OWNERS, KINDS, PAIRS]:
            self.check([], view, [], [])

    def test_show_disputed(self):
        told = pure(self, show_disputed, SCHEMA, BOTH, PAIRS, ("ada", "bo"))
        self.assertEqual(told, ([CAT, BO_CAT, CY_CAT, KIND], [CAT, BO_DOG, CY_CAT, KIND]))
        self.assertIsNone(pure(self, show_disputed, SCHEMA, BOTH, OWNERS, ("ada",)))
        self.assertIsNone(pure(self, show_disputed, SCHEMA, BOTH, OWNERS, ("zoe",)))
        self.assertEqual(count_of(SCHEMA, BOTH, PAIRS, ("ada", "bo")), 2)
        self.assertEqual(count_of(SCHEMA, BOTH, PAIRS, ("ada", "cy")), 2)

    def test_possible_witnesses(self):
        told = pure(self, possible_witnesses, SCHEMA, BOTH, OWNERS, ("ada",))
        self.assertEqual(told, [[CAT], [DOG]])
        self.assertEqual(pure(self, possible_witnesses, SCHEMA, BOTH, OWNERS, ("q",)), [])
        view = (1, [((X,), [("pet", (X, Y)), ("pet", (Z, Y))], []), ((X,), [("pet", (X, Y)), ("pet", (X, Z))], [])])
        told = pure(self, possible_witnesses, SCHEMA, BOTH, view, ("ada",))
        self.assertEqual(told, [[CAT], [CAT, BO_CAT], [CAT, CY_CAT], [DOG], [DOG, BO_DOG]])

    def test_made_data(self):
        counts = {"certain": 0, "disputed": 0, "never": 0}
        for seed in range(300):
            schema, facts, view = made_data(seed)
            every = plain_mends(schema, facts)
            rows = [plain_view_rows(mend, view) for mend in every]
            certain = sorted(set(rows[0]).intersection(*rows))
            disputed = sorted(set().union(*rows) - set(certain))
            self.check(facts, view, certain, disputed, schema)
            for row in plain_view_rows(facts, view):
                own = [each for each in witnesses(facts, view, row) if keys_hold(schema, each)]
                self.assertEqual(possible_witnesses(schema, facts, view, row), own)
                self.assertIs(own != [], row in certain + disputed)
                held = [any(set(each) <= set(mend) for each in own) for mend in every]
                self.assertIs(all(held), row in certain)
                self.assertEqual(sum(held), count_of(schema, facts, view, row))
                counts["never"] += row not in certain + disputed
            counts["certain"] += len(certain) * (len(every) > 1)
            counts["disputed"] += len(disputed)
        self.assertTrue(all(count > 5 for count in counts.values()), counts)


class Interface(unittest.TestCase):
    def test_the_functions_are_defined_in_this_file(self):
        for function in [rivalries, count_mends, mends, is_mend, certain_rows, possible_rows, possible_witnesses,
                         show_disputed, count_of]:
            self.assertEqual(function.__module__, mending.__name__)

    def test_the_names_of_the_arguments(self):
        self.assertEqual(rivalries(schema=SCHEMA, facts=[]), [])
        self.assertEqual(count_mends(schema=SCHEMA, facts=[]), 1)
        self.assertEqual(mends(schema=SCHEMA, facts=[]), [[]])
        self.assertIs(is_mend(schema=SCHEMA, facts=[], part=[]), True)
        self.assertEqual(certain_rows(schema=SCHEMA, facts=[CAT], view=OWNERS), [("ada",)])
        self.assertEqual(possible_rows(schema=SCHEMA, facts=[CAT], view=OWNERS), [("ada",)])
        self.assertEqual(possible_witnesses(schema=SCHEMA, facts=[CAT], view=OWNERS, row=("ada",)), [[CAT]])
        self.assertIsNone(show_disputed(schema=SCHEMA, facts=[CAT], view=OWNERS, row=("ada",)))
        self.assertEqual(count_of(schema=SCHEMA, facts=[CAT], view=OWNERS, row=("ada",)), 1)
