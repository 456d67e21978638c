import itertools
import unittest
from unittest import mock

from helpers import X, Y, Z, Maker, all_facts, pure, small_changes
from wishshown import explaining, searching
from wishshown.explaining import can_do, clash, company, give_up
from wishshown.fresh import fresh_words, words_in_use
from wishshown.refuting import refute
from wishshown.searching import solve
from wishshown.tables import after, ascending, keys_hold
from wishshown.views import view_rows
from wishshown.wishes import wish_of

SCHEMA = [("emp", 2, None), ("boss", 2, None)]
ANN, BEA, XC = ("emp", ("ann", "x")), ("emp", ("bea", "x")), ("boss", ("x", "cy"))
FACTS = [ANN, BEA, XC]
CHIEFS = (2, [((X, Z), [("emp", (X, Y)), ("boss", (Y, Z))], [])])
STAFF = (1, [((X,), [("emp", (X, Y))], [])])
PLACES = (2, [((X, Y), [("emp", (X, Y))], [])])
ALL, NONE, DELETE, INSERT = (True, True), (False, False), (True, False), (False, True)
OFF_ANN, OFF_BEA = (0, "remove", ("ann", "cy")), (0, "remove", ("bea", "cy"))
ADD_ANN = (0, "add", ("ann", "di"))


def task(edits, may=(ALL, ALL), views=(CHIEFS,), facts=FACTS):
    return (SCHEMA, list(facts), list(views), (list(edits), list(may)))


def part_of(told, places):
    schema, facts, views, (edits, may) = told
    return (schema, facts, views, ([edits[place] for place in places], may))


def lists_of(told):
    """All ascending lists of places of the edits, the shorter ones first."""
    places = range(len(told[3][0]))
    return [list(chosen) for count in range(len(places) + 1) for chosen in itertools.combinations(places, count)]


def plain_can_do(told, places):
    return solve(part_of(told, places)) is not None


def plain_give_up(told):
    places = range(len(told[3][0]))
    found = [given for given in lists_of(told) if plain_can_do(told, [each for each in places if each not in given])]
    return sorted([given for given in found if len(given) == len(found[0])])


def is_clash(told, places):
    """What point 60 says of a clash."""
    shorter = [[each for each in places if each != place] for place in places]
    return (places == sorted(set(places)) and not plain_can_do(told, places)
            and all(plain_can_do(told, each) for each in shorter))


def made_edits(seed):
    """A task with a few edits made by a fixed rule, and often with a view that shows a table."""
    maker = Maker(seed)
    chance = maker.random
    words = ["a", "b"][:chance.randint(1, 2)]
    schema = maker.schema()
    facts = maker.holding(schema, words, 3)
    views = [maker.view(schema, words) for _ in range(chance.randint(1, 2))]
    for name, width, _ in schema:
        if len(views) < 4 and chance.random() < 0.5:
            shown = (X, Y)[:width]
            views.append((width, [(shown, [(name, shown)], [])]))
    edits = {}
    for _ in range(chance.randint(1, 4)):
        place = chance.randrange(len(views))
        rows = view_rows(facts, views[place])
        if rows and chance.random() < 0.7:
            edits.setdefault((place, chance.choice(rows)), "remove")
        else:
            row = tuple(chance.choice(words + ["n"]) for _ in range(views[place][0]))
            edits.setdefault((place, row), chance.choice(["add", "remove"]))
    may = [(chance.random() < 0.85, chance.random() < 0.85) for _ in schema]
    return (schema, facts, views, ([(place, deed, row) for (place, row), deed in edits.items()], may))


def allowed_changes(told, most):
    """All changes with at most so many facts that are allowed and after which the keys hold."""
    schema, database, _, (_, may) = told
    pairs = {table[0]: pair for table, pair in zip(schema, may)}
    used = words_in_use(told)
    every = all_facts(schema, used + fresh_words(used, 1))
    pool = [(0, fact) for fact in database if pairs[fact[0]][0]]
    pool += [(1, fact) for fact in every if fact not in database and pairs[fact[0]][1]]
    for count in range(most + 1):
        for chosen in itertools.combinations(pool, count):
            change = tuple(ascending(schema, [fact for kind, fact in chosen if kind == side]) for side in (0, 1))
            if keys_hold(schema, after(schema, database, change)):
                yield change


def other_rows(told, change):
    """How many rows that no edit names come or go; None if an edit is not done."""
    schema, database, views, (edits, _) = told
    end = after(schema, database, change)
    if not all((row in view_rows(end, views[place])) == (deed == "add") for place, deed, row in edits):
        return None
    done, _ = wish_of(schema, database, views, change, may=[])
    named = [(place, row) for place, _, row in edits]
    return len([edit for edit in done if (edit[0], edit[2]) not in named])


def single_edits(told):
    """All further edits, with at most one fresh word."""
    _, facts, views, (edits, _) = told
    used = words_in_use(told)
    words = used + fresh_words(used, 1)
    named = [(place, row) for place, _, row in edits]
    for place, view in enumerate(views):
        rows = view_rows(facts, view)
        for row in itertools.product(words, repeat=view[0]):
            if (place, row) not in named:
                yield (place, "remove" if row in rows else "add", row)


class CanDo(unittest.TestCase):
    def test_the_empty_list(self):
        for told in [task([]), task([OFF_ANN]), task([OFF_ANN, OFF_BEA], [NONE, NONE])]:
            self.assertIs(pure(self, can_do, told, []), True)

    def test_one_by_one_or_together(self):
        told = task([OFF_ANN, OFF_BEA], [NONE, DELETE])
        for places, answer in [([0], False), ([1], False), ([0, 1], True)]:
            self.assertIs(pure(self, can_do, told, places), answer, places)
        told = task([OFF_ANN, (0, "add", ("bea", "di"))], [INSERT, NONE])
        for places, answer in [([0], False), ([1], False), ([0, 1], False)]:
            self.assertIs(pure(self, can_do, told, places), answer, places)
        told = task([OFF_ANN, OFF_BEA], [DELETE, NONE])
        for places, answer in [([0], True), ([1], True), ([0, 1], True)]:
            self.assertIs(pure(self, can_do, told, places), answer, places)

    def test_only_one_of_two(self):
        # With the key ann has one place: she can be put under di or under ed.
        schema = [("emp", 2, 1), ("boss", 2, 1)]
        facts = [("boss", ("y", "di")), ("boss", ("z", "ed"))]
        told = (schema, facts, [CHIEFS], ([ADD_ANN, (0, "add", ("ann", "ed"))], [ALL, NONE]))
        for places, answer in [([0], True), ([1], True), ([0, 1], False)]:
            self.assertIs(pure(self, can_do, told, places), answer, places)

    def test_all_tables_are_barred(self):
        told = task([OFF_ANN, ADD_ANN, (0, "add", ("ann", "cy")), (0, "remove", ("q", "q"))], [NONE, NONE])
        for places in lists_of(told):
            self.assertIs(can_do(told, places), set(places) <= {2, 3})

    def test_made_tasks(self):
        told_true, told_false = 0, 0
        for seed in range(200):
            told = made_edits(seed)
            for places in lists_of(told):
                answer = can_do(told, places)
                self.assertIs(answer, plain_can_do(told, places))
                self.assertIs(answer, refute(part_of(told, places)) is None)
                told_true += answer
                told_false += not answer
        self.assertGreater(told_true, 100)
        self.assertGreater(told_false, 100)

    def test_small_changes(self):
        for seed in range(60):
            told = made_edits(seed)
            for places in lists_of(told)[:4]:
                if any(True for _ in small_changes(part_of(told, places), 2, 1)):
                    self.assertIs(can_do(told, places), True)


class Clash(unittest.TestCase):
    def test_the_example(self):
        views = [STAFF, (1, [((Y,), [("emp", (X, Y))], [])])]
        told = ([("emp", 2, None)], [("emp", ("ann", "x"))], views, ([(0, "remove", ("ann",))], [DELETE]))
        self.assertEqual(pure(self, clash, told), [0])
        self.assertEqual(pure(self, give_up, told), [[0]])
        self.assertEqual(pure(self, company, told), [(1, "remove", ("x",))])

    def test_no_edits_and_a_wish_that_can_be_done(self):
        for told in [task([]), task([], [NONE, NONE]), task([OFF_ANN]), task([OFF_ANN, OFF_BEA], [NONE, DELETE]),
                     task([(0, "add", ("ann", "cy"))], [NONE, NONE])]:
            self.assertIsNone(pure(self, clash, told))

    def test_a_single_edit(self):
        self.assertEqual(pure(self, clash, task([OFF_ANN], [NONE, DELETE])), [0])
        told = task([(0, "add", ("ann", "cy")), OFF_BEA, (0, "remove", ("q", "q"))], [NONE, ALL])
        self.assertEqual(pure(self, clash, told), [1])
        self.assertIn(pure(self, clash, task([OFF_ANN, OFF_BEA], [NONE, NONE])), [[0], [1]])

    def test_two_that_can_be_done_one_by_one(self):
        schema = [("emp", 2, 1), ("boss", 2, 1)]
        facts = [("boss", ("y", "di")), ("boss", ("z", "ed"))]
        edits = [ADD_ANN, (0, "add", ("bea", "di")), (0, "add", ("ann", "ed"))]
        told = (schema, facts, [CHIEFS], (edits, [ALL, NONE]))
        self.assertEqual(pure(self, clash, told), [0, 2])
        self.assertEqual(pure(self, give_up, told), [[0], [2]])

    def test_two_that_can_be_done_only_together(self):
        # Both or none; with the third edit, which cannot be done, there is a clash of that one alone.
        edits = [OFF_ANN, OFF_BEA, (0, "add", ("q", "q"))]
        told = task(edits, [NONE, DELETE])
        self.assertIsNone(clash(task(edits[:2], [NONE, DELETE])))
        self.assertIn(pure(self, clash, told), [[2], [0], [1]])
        self.assertTrue(is_clash(told, clash(told)))

    def test_a_longer_list_can_be_possible_where_a_shorter_one_is_not(self):
        cat = ("emp", ("cat", "x"))
        told = task([OFF_ANN, OFF_BEA], [NONE, DELETE], facts=[ANN, BEA, cat, XC])
        self.assertIn(pure(self, clash, told), [[0], [1]])
        edits = [OFF_ANN, OFF_BEA, (0, "remove", ("cat", "cy"))]
        self.assertIsNone(clash(task(edits, [NONE, DELETE], facts=[ANN, BEA, cat, XC])))

    def test_what_is_needed_at_first_may_not_be_needed_later(self):
        # Without the first edit the other two can be done together, but the last one alone is a clash.
        edits = [(0, "add", ("cat", "cy")), OFF_ANN, OFF_BEA]
        told = task(edits, [INSERT, DELETE])
        self.assertEqual([places for places in lists_of(told) if can_do(told, places)], [[], [0], [1, 2]])
        self.assertIn(pure(self, clash, told), [[1], [2]])
        for order in itertools.permutations(edits):
            told = task(order, [INSERT, DELETE])
            self.assertTrue(is_clash(told, clash(told)))
        self.assertEqual(pure(self, give_up, task(edits, [INSERT, DELETE])), [[0]])

    def test_the_same_edit_twice(self):
        told = task([OFF_ANN, OFF_ANN], [NONE, DELETE])
        self.assertIn(pure(self, clash, told), [[0], [1]])
        self.assertEqual(pure(self, give_up, told), [[0, 1]])
        self.assertIsNone(clash(task([OFF_ANN, OFF_ANN])))

    def test_made_tasks(self):
        lengths = {}
        for seed in range(400):
            told = made_edits(seed)
            found = clash(told)
            if found is None:
                self.assertTrue(plain_can_do(told, range(len(told[3][0]))))
            else:
                self.assertTrue(is_clash(told, found), (seed, found))
                lengths[len(found)] = lengths.get(len(found), 0) + 1
        self.assertGreater(lengths[1], 50)
        self.assertGreater(lengths[2], 2)


class GiveUp(unittest.TestCase):
    def test_no_edits_and_a_wish_that_can_be_done(self):
        for told in [task([]), task([OFF_ANN]), task([OFF_ANN, OFF_BEA], [NONE, DELETE])]:
            self.assertEqual(pure(self, give_up, told), [[]])

    def test_all_have_to_be_given_up(self):
        self.assertEqual(pure(self, give_up, task([OFF_ANN, OFF_BEA], [NONE, NONE])), [[0, 1]])
        told = task([OFF_ANN, OFF_BEA, (0, "add", ("ann", "cy"))], [NONE, NONE])
        self.assertEqual(pure(self, give_up, told), [[0, 1]])

    def test_several_lists_of_the_least_length(self):
        schema = [("emp", 2, 1), ("boss", 2, 1)]
        facts = [("boss", ("w", "fay")), ("boss", ("y", "di")), ("boss", ("z", "ed"))]
        edits = [(0, "add", ("ann", chief)) for chief in ("di", "ed", "fay")]
        told = (schema, facts, [CHIEFS], (edits, [ALL, NONE]))
        self.assertEqual(pure(self, give_up, told), [[0, 1], [0, 2], [1, 2]])
        edits = [(0, "add", (name, chief)) for name in ("ann", "bea") for chief in ("di", "ed")]
        told = (schema, facts, [CHIEFS], (edits, [ALL, NONE]))
        self.assertEqual(pure(self, give_up, told), [[0, 2], [0, 3], [1, 2], [1, 3]])

    def test_edits_that_can_be_done_only_together(self):
        told = task([OFF_ANN, (0, "add", ("q", "q")), OFF_BEA], [NONE, DELETE])
        self.assertEqual(pure(self, give_up, told), [[1]])
        cat = ("emp", ("cat", "x"))
        told = task([OFF_ANN, OFF_BEA], [NONE, DELETE], facts=[ANN, BEA, cat, XC])
        self.assertEqual(pure(self, give_up, told), [[0, 1]])

    def test_made_tasks(self):
        several = 0
        for seed in range(300):
            told = made_edits(seed)
            found = give_up(told)
            self.assertEqual(found, plain_give_up(told), seed)
            several += len(found) > 1
        self.assertGreater(several, 2)

    def test_more_than_six_edits(self):
        facts = [("emp", (f"w{place}", "x")) for place in range(9)]
        edits = [(0, "remove", (f"w{place}", "x")) for place in range(9)]
        told = ([("emp", 2, None)], facts, [PLACES, (1, [((Y,), [("emp", (X, Y))], [])])], (edits, [ALL]))
        self.assertEqual(pure(self, give_up, told), [[place] for place in range(9)])
        self.assertEqual(pure(self, clash, told), list(range(9)))
        self.assertEqual(len(pure(self, company, told)), 1)
        told = (told[0], facts, told[2], (edits, [DELETE]))
        self.assertEqual(pure(self, company, told), [(1, "remove", ("x",))])


def part_with(told, further):
    """The task with further edits."""
    schema, facts, views, (edits, may) = told
    return (schema, facts, views, (edits + further, may))


# Here changes with the fewest facts that do the edits have more company than others.
MORE_FACTS = [267, 271, 392, 419, 434, 435, 559, 577, 584, 637, 688, 698, 713, 736, 778, 853, 928, 931, 946, 988]


class Company(unittest.TestCase):
    def check(self, told):
        """Check what points 62 and 63 say of the answer, but that there are no fewer."""
        found = pure(self, company, told)
        if found is None:
            return None
        _, facts, views, (edits, _) = told
        self.assertIsNotNone(solve(part_with(told, found)))
        self.assertEqual(found, sorted(found))
        named = [(place, row) for place, _, row in edits]
        self.assertEqual([edit for edit in found if (edit[0], edit[2]) in named], [])
        for place, deed, row in found:
            self.assertEqual(deed, "remove" if row in view_rows(facts, views[place]) else "add")
        used = words_in_use(told)
        new = {word for _, _, row in found for word in row if word not in used}
        self.assertEqual(new, set(fresh_words(used, len(new))))
        return found

    def test_no_company_is_needed(self):
        for told in [task([]), task([], [NONE, NONE]), task([OFF_ANN]), task([OFF_ANN, OFF_BEA], [NONE, DELETE])]:
            self.assertEqual(self.check(told), [])

    def test_one_edit(self):
        self.assertEqual(self.check(task([OFF_ANN], [NONE, DELETE])), [OFF_BEA])
        self.assertEqual(self.check(task([OFF_ANN], [DELETE, NONE], [CHIEFS, STAFF])), [(1, "remove", ("ann",))])
        told = task([(0, "add", ("dot", "cy"))], [INSERT, NONE], [CHIEFS, STAFF])
        self.assertEqual(self.check(told), [(1, "add", ("dot",))])

    def test_two_edits_and_their_order(self):
        cat = ("emp", ("cat", "x"))
        told = task([(0, "remove", ("bea", "cy"))], [NONE, DELETE], facts=[ANN, BEA, cat, XC])
        self.assertEqual(self.check(told), [OFF_ANN, (0, "remove", ("cat", "cy"))])
        told = task([(2, "remove", ("ann", "x"))], [ALL, NONE], [STAFF, CHIEFS, PLACES])
        found = self.check(told)
        self.assertEqual(len(found), 2)
        # Ann moves to another place; adding stands before removing.
        places = (1, [((Y,), [("emp", (X, Y))], [])])
        told = ([("emp", 2, 1)], [ANN], [STAFF, places, PLACES], ([(2, "add", ("ann", "y"))], [ALL]))
        self.assertEqual(self.check(told), [(1, "add", ("y",)), (1, "remove", ("x",)), (2, "remove", ("ann", "x"))])

    def test_company_is_no_edit_of_the_wish(self):
        told = task([OFF_ANN, (0, "add", ("bea", "cy"))], [NONE, DELETE])
        self.assertIsNone(self.check(told))
        told = task([OFF_ANN, (1, "add", ("ann",))], [DELETE, NONE], [CHIEFS, STAFF])
        self.assertIsNone(self.check(told))
        self.assertEqual(self.check(task([OFF_ANN, (1, "add", ("bea",))], [DELETE, NONE], [CHIEFS, STAFF])),
                         [(1, "remove", ("ann",))])

    def test_none(self):
        self.assertIsNone(self.check(task([OFF_ANN], [NONE, NONE])))
        self.assertIsNone(self.check(task([ADD_ANN], [DELETE, DELETE])))
        schema = [("emp", 2, 1), ("boss", 2, 1)]
        facts = [("boss", ("y", "di")), ("boss", ("z", "ed"))]
        edits = [ADD_ANN, (0, "add", ("ann", "ed"))]
        self.assertIsNone(self.check((schema, facts, [CHIEFS], (edits, [ALL, NONE]))))

    def test_fresh_words(self):
        # Who comes below di needs a place, and the view of places shows it.
        told = task([(0, "add", ("new", "di"))], views=[CHIEFS, PLACES])
        self.assertEqual(self.check(told), [(1, "add", ("new", "a0"))])
        told = task([(0, "add", ("new", "di"))], views=[CHIEFS, PLACES], facts=FACTS + [("boss", ("a1", "a0"))])
        self.assertIn(self.check(told), [[(1, "add", ("new", "a1"))], [(1, "add", ("new", "a2"))]])
        told = task([(0, "add", ("new", "di"))], [ALL, INSERT], [CHIEFS, PLACES], FACTS + [("emp", ("a1", "a0"))])
        self.assertEqual(self.check(told), [(1, "add", ("new", "a2"))])
        # Both places can be the same; so that di and ed stay apart, they are not.
        told = task([(0, "add", ("n", "di")), (0, "add", ("m", "ed"))], views=[CHIEFS, PLACES])
        found = self.check(told)
        self.assertEqual([edit[0] for edit in found], [1, 1])
        self.assertEqual({edit[2][1] for edit in found}, {"a0", "a1"})

    def test_several_rows_that_differ_in_fresh_words_alone(self):
        # Each place has one boss, so who comes below several bosses needs as many places.
        schema = [("emp", 2, None), ("boss", 2, 1)]
        for count in range(1, 5):
            edits = [(0, "add", ("new", f"c{number}")) for number in range(count)]
            told = (schema, [ANN, XC], [CHIEFS, PLACES], (edits, [ALL, INSERT]))
            for probes in [searching.PROBES, ()]:
                with mock.patch.object(searching, "PROBES", probes):
                    self.assertEqual(self.check(told), [(1, "add", ("new", f"a{number}")) for number in range(count)])

    def test_much_company(self):
        # Without p0 all others lose the rows that they share with him, both ways; or else they lose their boss.
        people = [f"p{number}" for number in range(8)]
        pairs = (2, [((X, Z), [("emp", (X, Y)), ("emp", (Z, Y))], [(X, "!=", Z)])])
        schema = [("emp", 2, 1), ("boss", 2, 1)]
        facts = [("emp", (name, "x")) for name in people] + [XC]
        told = (schema, facts, [CHIEFS, pairs], ([(0, "remove", ("p0", "cy"))], [DELETE, NONE]))
        found = self.check(told)
        self.assertEqual(len(found), 14)
        self.assertTrue(all(edit[0] == 1 and "p0" in edit[2] for edit in found))
        told = (schema, facts, [CHIEFS, pairs], ([(0, "remove", ("p0", "cy"))], [ALL, ALL]))
        self.assertEqual(len(self.check(told)), 7)

    def test_more_than_six_edits_in_all(self):
        facts = [("emp", (f"w{place}", "x")) for place in range(9)] + [XC]
        told = task([(0, "remove", ("w0", "cy"))], [NONE, DELETE], facts=facts)
        self.assertEqual(self.check(told), [(0, "remove", (f"w{place}", "cy")) for place in range(1, 9)])

    def test_made_tasks(self):
        lengths = {}
        for seed in [*range(200), *MORE_FACTS]:
            told = made_edits(seed)
            found = self.check(told)
            lengths[found if found is None else len(found)] = True
            self.assertIs(found == [], plain_can_do(told, range(len(told[3][0]))))
        self.assertEqual([each for each in [None, 0, 1, 2, 3] if each not in lengths], [])

    def test_no_small_change_has_less_company(self):
        count = 0
        for seed in [*range(100), *MORE_FACTS]:
            told = made_edits(seed)
            found = company(told)
            others = [other_rows(told, change) for change in allowed_changes(told, 2)]
            least = min([number for number in others if number is not None], default=None)
            if found is None:
                self.assertIsNone(least)
            elif least is not None:
                self.assertLessEqual(len(found), least)
                count += len(found) == least > 0
        self.assertGreater(count, 10)

    def test_a_change_with_more_facts_has_less_company(self):
        # Taking ann away leaves neither her nor her place; if she moves to bea, no more than the place is gone.
        views = [CHIEFS, STAFF, (1, [((Y,), [("emp", (X, Y))], [])])]
        told = task([OFF_ANN], [ALL, NONE], views, [ANN, ("emp", ("bea", "y")), XC])
        self.assertEqual(len(self.check(told)), 1)

    def test_the_smaller_side_of_a_join(self):
        # Either all that goes with the one fact is lost, or all that goes with the other one.
        many = [("emp", (f"w{place}", "x")) for place in range(4)] + [XC]
        chiefs = [ANN] + [("boss", ("x", f"w{place}")) for place in range(4)]
        places, bosses = (2, [((X, Y), [("emp", (X, Y))], [])]), (2, [((X, Y), [("boss", (X, Y))], [])])
        told = task([(0, "remove", ("w0", "cy"))], [DELETE, DELETE], [CHIEFS, places, bosses], many)
        self.assertEqual(self.check(told), [(1, "remove", ("w0", "x"))])
        told = task([(0, "remove", ("ann", "w0"))], [DELETE, DELETE], [CHIEFS, places, bosses], chiefs)
        self.assertEqual(self.check(told), [(2, "remove", ("x", "w0"))])

    def test_a_whole_search_finds_as_few(self):
        # Most answers are found by the first attempts already; without these the search behind them has to find them.
        told = [made_edits(seed) for seed in [*range(100), *MORE_FACTS]]
        first = [company(each) for each in told]
        with mock.patch.object(searching, "PROBES", ()):
            for each, found in zip(told, first):
                other = self.check(each)
                self.assertEqual(None if other is None else len(other), None if found is None else len(found))

    def test_no_single_edit_does_where_there_are_two(self):
        count = 0
        for seed in [*range(300), *MORE_FACTS]:
            told = made_edits(seed)
            found = company(told)
            if found is not None and len(found) == 2:
                count += 1
                for edit in single_edits(told):
                    self.assertIsNone(solve(part_with(told, [edit])), (seed, edit))
        self.assertGreater(count, 5)


class Interface(unittest.TestCase):
    def test_the_functions_are_defined_in_this_file(self):
        for function in [can_do, clash, give_up, company]:
            self.assertEqual(function.__module__, explaining.__name__)

    def test_the_names_of_the_arguments(self):
        self.assertIs(can_do(task=task([]), places=[]), True)
        self.assertIsNone(clash(task=task([])))
        self.assertEqual(give_up(task=task([])), [[]])
        self.assertEqual(company(task=task([])), [])
