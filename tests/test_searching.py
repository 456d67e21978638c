import unittest
from unittest import mock

from helpers import U, X, Y, Z, made_task, pure, small_changes, words_for
from wishshown import searching
from wishshown.fresh import fresh_words, least_form, words_in_use
from wishshown.searching import all_least, ends, solve
from wishshown.tables import after, ascending, keys_hold, place_of, words_of
from wishshown.wishes import does, wish_of

SCHEMA = [("emp", 2, None), ("boss", 2, None)]
ANN, BEA, XC, YD = ("emp", ("ann", "x")), ("emp", ("bea", "y")), ("boss", ("x", "cy")), ("boss", ("y", "di"))
FACTS = [ANN, BEA, XC, YD]
CHIEFS = (2, [((X, Z), [("emp", (X, Y)), ("boss", (Y, Z))], [])])
PLACES = (2, [((X, Y), [("emp", (X, Y))], [])])
ALL, NONE = (True, True), (False, False)
OFF, ADD = (0, "remove", ("ann", "cy")), (0, "add", ("ann", "di"))


def task(edits, may=(ALL, ALL), views=(CHIEFS,), facts=FACTS, schema=SCHEMA):
    return (schema, list(facts), list(views), (list(edits), list(may)))


def emp(*row):
    return ("emp", row)


def boss(*row):
    return ("boss", row)


def count_of(change):
    return len(change[0]) + len(change[1])


def strange(told, change):
    used = words_in_use(told)
    return [word for word in words_of(change[1]) if word not in used]


def rank(told, change):
    deleted, inserted = [[(place_of(told[0], name), row) for name, row in facts] for facts in change]
    return (count_of(change), deleted, inserted)


def frozen(change):
    return (tuple(change[0]), tuple(change[1]))


def parts_of(change):
    """All proper parts of the change."""
    deleted, inserted = change
    every = [(0, fact) for fact in deleted] + [(1, fact) for fact in inserted]
    for number in range((1 << len(every)) - 1):
        kept = [each for place, each in enumerate(every) if number & 1 << place]
        yield ([fact for side, fact in kept if side == 0], [fact for side, fact in kept if side == 1])


class Solving(unittest.TestCase):
    def check(self, told, count):
        """Check an answer by what the points say of it; count is the least number of facts, or None."""
        change = pure(self, solve, told)
        if count is None:
            self.assertIsNone(change)
            self.assertEqual(pure(self, lambda each: list(ends(each)), told), [])
            self.assertEqual(pure(self, all_least, told), [])
            self.assertIsNone(solve(told, most=50))
            return None
        self.assertTrue(does(told, change))
        self.assertEqual(count_of(change), count)
        self.assertEqual(set(strange(told, change)),
                         set(fresh_words(words_in_use(told), len(strange(told, change)))))
        for most in [count, count + 1, count + 20, None]:
            self.assertEqual(count_of(pure(self, solve, told, most=most)), count)
        for most in range(count):
            self.assertIsNone(pure(self, solve, told, most=most))
        least = pure(self, all_least, told)
        self.assertEqual(min(count_of(each) for each in least), count)
        self.assertIn(frozen(least_form(told, change)), [frozen(each) for each in least])
        return change

    def test_no_edits(self):
        self.assertEqual(self.check(task([]), 0), ([], []))
        self.assertEqual(self.check(task([], [NONE, NONE], facts=[]), 0), ([], []))
        self.assertEqual(all_least(task([])), [([], [])])

    def test_a_wish_that_is_done_already(self):
        done = [(0, "add", ("ann", "cy")), (0, "remove", ("ann", "di")), (0, "remove", ("q", "q"))]
        self.assertEqual(self.check(task(done, [NONE, NONE]), 0), ([], []))

    def test_rows_that_are_to_be_removed(self):
        self.check(task([OFF]), 1)
        self.assertEqual(all_least(task([OFF])), [([ANN], []), ([XC], [])])
        self.assertEqual(self.check(task([OFF, (0, "remove", ("bea", "di"))], [(False, True), ALL]), 2), ([XC, YD], []))
        # Another row needs the fact, and a fresh word takes its place.
        facts = [ANN, emp("bea", "x"), XC]
        self.assertEqual(self.check(task([OFF], [(True, False), ALL], facts=facts), 1), ([ANN], []))
        self.assertEqual(self.check(task([OFF], [(False, True), ALL], facts=facts), 3),
                         ([XC], [emp("bea", "a0"), boss("a0", "cy")]))

    def test_rows_that_are_to_be_added(self):
        self.assertEqual(self.check(task([ADD]), 1)[0], [])
        self.assertEqual(self.check(task([(0, "add", ("ann", "ed"))]), 1), ([], [boss("x", "ed")]))
        facts = [ANN, emp("bea", "x"), XC]
        found = self.check(task([(0, "add", ("ann", "ed"))], facts=facts), 2)
        self.assertEqual({name for name, _ in found[1]}, {"emp", "boss"})
        self.assertEqual(self.check(task([(0, "add", ("zoe", "cy"))]), 1), ([], [emp("zoe", "x")]))

    def test_several_edits(self):
        edits = [(0, "add", ("zoe", "cy")), OFF, (0, "add", ("zoe", "ed")), (0, "remove", ("bea", "di"))]
        self.check(task(edits), 4)

    def test_what_may_be_deleted_and_inserted(self):
        for may, count in [([NONE, NONE], None), ([(False, True), (False, True)], None), ([NONE, (True, False)], 1),
                           ([(True, False), NONE], 1)]:
            self.check(task([OFF], may), count)
        for may, count in [([NONE, NONE], None), ([(True, False), (True, False)], None), ([NONE, (False, True)], 1),
                           ([(False, True), NONE], 1)]:
            self.check(task([ADD], may), count)

    def test_a_wish_that_no_change_does(self):
        self.check(task([OFF], views=[CHIEFS, PLACES, (2, [((X, Y), [("boss", (X, Y))], [])])]), None)
        self.check(task([(0, "add", ("ann",))], views=[(1, [((X,), [("emp", (X, X))], [(X, "!=", X)])])]), None)
        self.check(task([(0, "add", ("ann",))], views=[(1, [((("word", "bea"),), [("emp", (X, X))], [])])]), None)

    def test_keys_that_stand_in_the_way(self):
        schema = [("emp", 2, 1), ("boss", 2, None)]
        self.check(task([ADD], schema=schema), 1)
        # With the key on both tables ann has one place, and a place has one chief.
        schema = [("emp", 2, 1), ("boss", 2, 1)]
        self.check(task([ADD], schema=schema), None)
        self.check(task([ADD, OFF], schema=schema), 2)
        self.assertEqual(all_least(task([ADD, OFF], schema=schema))[:2],
                         [([ANN], [emp("ann", "y")]), ([XC], [boss("x", "di")])])
        self.check(task([ADD, OFF], [(False, True), ALL], schema=schema), 2)
        self.check(task([ADD, OFF], [(False, True), (False, True)], schema=schema), None)

    def shown(self, *words):
        """A view that shows of these words the ones that are places of somebody."""
        return (1, [((("word", each),), [("emp", (X, ("word", each)))], []) for each in words])

    def test_words_that_must_be_fresh(self):
        facts = [ANN, emp("bea", "x"), XC]
        views = [CHIEFS, self.shown("ann", "bea", "cy"), self.shown("ed", "a0")]
        told = task([(0, "add", ("ann", "ed"))], views=views, facts=facts)
        self.assertEqual(words_in_use(told), ["a0", "ann", "bea", "cy", "ed", "x"])
        self.assertEqual(self.check(told, 2), ([], [emp("ann", "a1"), boss("a1", "ed")]))

    def test_two_fresh_words(self):
        # Every place shows who is there together, so that new ones need places of their own.
        pairs = (2, [((X, Y), [("emp", (X, Z)), ("emp", (Y, Z))], [])])
        names, more = self.shown("ann", "bea", "n"), self.shown("m", "x", "y")
        schema = [("emp", 2, None)]
        told = task([(0, "add", ("m", "m")), (0, "add", ("n", "n"))], [ALL], [pairs, names, more], [ANN, BEA], schema)
        self.assertEqual(solve(told)[0], [])
        self.assertEqual(sorted(word for _, (_, word) in solve(told)[1]), ["a0", "a1"])
        self.assertEqual(all_least(told)[0], ([], [emp("m", "a0"), emp("n", "a1")]))

    def test_three_hidden_variables(self):
        view = (1, [((X,), [("p", (X, Y, Z)), ("q", (Z, U))], [])])
        facts = [("p", (f"n{number}", f"b{number}", f"c{number}")) for number in range(8)]
        facts += [("q", (f"c{number}", f"d{number}")) for number in range(9)]
        told = task([(0, "add", ("new",))], views=[view], facts=facts, schema=[("p", 3, None), ("q", 2, None)])
        change = solve(told)
        self.assertTrue(does(told, change))
        self.assertEqual(count_of(change), 1)

    def test_six_edits(self):
        places, names = words_for(4), [f"n{number}" for number in range(9)]
        facts = [emp(name, places[number % 3]) for number, name in enumerate(names)]
        facts += [boss(place, chief) for place in places[:3] for chief in ("cy", "di")]
        told = task([(0, "add", (name, "ed")) for name in names[:6:2]] + [(0, "remove", (names[number], "cy"))
                                                                          for number in (1, 4, 7)], facts=facts)
        change = solve(told)
        self.assertTrue(does(told, change))
        self.assertIsNone(solve(told, most=count_of(change) - 1))


    def test_many_edits(self):
        staff = (1, [((X,), [("emp", (X, Y))], [])])
        edits = [(0, "add", (f"m{number:02}",)) for number in range(40)]
        change = solve(task(edits, views=[staff]))
        self.assertTrue(does(task(edits, views=[staff]), change))
        self.assertEqual(count_of(change), 40)
        edits = [(0, "add", (f"m{number:02}", "ed")) for number in range(25)]
        change = solve(task(edits))
        self.assertTrue(does(task(edits), change))
        self.assertEqual(count_of(change), 26)


class AllLeast(unittest.TestCase):
    def test_the_form_and_the_order(self):
        found = all_least(task([ADD]))
        self.assertEqual(found, [
            ([], [emp("ann", "y")]),
            ([], [boss("x", "di")]),
            ([], [emp("ann", "a0"), boss("a0", "di")]),
            ([], [emp("ann", "ann"), boss("ann", "di")]),
            ([], [emp("ann", "bea"), boss("bea", "di")]),
            ([], [emp("ann", "cy"), boss("cy", "di")]),
            ([], [emp("ann", "di"), boss("di", "di")]),
        ])

    def test_deleted_facts_come_before_inserted_ones(self):
        found = all_least(task([OFF, ADD]))
        self.assertEqual(found[:4], [([ANN], [emp("ann", "y")]), ([XC], [emp("ann", "y")]),
                                     ([XC], [boss("x", "di")]), ([ANN], [emp("ann", "a0"), boss("a0", "di")])])

    def test_two_words_with_one_form(self):
        # Two places that are different, with words that nobody names: either can come first.
        view = (1, [((X,), [("emp", (X, Y)), ("emp", (X, Z))], [(Y, "!=", Z)])])
        told = task([(0, "add", ("p",))], views=[view], facts=[], schema=[("emp", 2, None)], may=[ALL])
        self.assertEqual(all_least(told), [([], [emp("p", "a0"), emp("p", "a1")]),
                                           ([], [emp("p", "a0"), emp("p", "p")])])

    def test_fresh_words_have_their_places_by_the_list_of_facts(self):
        # The rule names the table boss first, so its variable is the first one to get a fresh word.
        view = (1, [((X,), [("boss", (X, Y)), ("emp", (X, Z))], [(Y, "!=", Z)])])
        told = task([(0, "add", ("p",))], views=[view], facts=[])
        self.assertEqual(all_least(told), [
            ([], [emp("p", "a0"), boss("p", "a1")]),
            ([], [emp("p", "a0"), boss("p", "p")]),
            ([], [emp("p", "p"), boss("p", "a0")]),
        ])

    def test_an_empty_list(self):
        self.assertEqual(all_least(task([OFF], [NONE, NONE])), [])


class MadeTasks(unittest.TestCase):
    """Small tasks, where all changes with few facts are tried."""

    def check(self, told):
        every = list(small_changes(told, 2, 3))
        change = solve(told)
        least = all_least(told)
        found = list(ends(told))
        self.assertEqual(change is None, least == [])
        self.assertEqual(change is None, found == [])
        small = min([count_of(each) for each in every], default=None)
        if small is not None:
            self.assertEqual(count_of(change), small)
        elif change is not None:
            self.assertGreater(count_of(change), 2)
        self.assertTrue(all(does(told, each) for each in found + least))
        self.assertTrue(all(keys_hold(told[0], after(told[0], told[1], each)) for each in found))
        self.assertEqual(least, sorted(least, key=lambda each: rank(told, each)))
        self.assertEqual(len({frozen(each) for each in least}), len(least))
        for each in least:
            self.assertEqual(each, least_form(told, each))
            if count_of(each) <= 8:
                self.assertFalse(any(does(told, part) for part in parts_of(each)))
        # Alike changes have equal forms, so the least ones of all that were tried are those of the list.
        told_least = {frozen(least_form(told, each)) for each in every
                      if not any(does(told, part) for part in parts_of(each))}
        self.assertEqual(told_least, {frozen(each) for each in least
                                      if count_of(each) <= 2 and len(strange(told, each)) <= 3})
        forms = {frozen(least_form(told, each)) for each in found}
        self.assertLessEqual({frozen(each) for each in least}, forms)
        return change is not None

    def test_small_tasks(self):
        done = 0
        for seed in range(250):
            told = made_task(seed, most=3)
            if sum((len(words_in_use(told)) + 3) ** width for _, width, _ in told[0]) <= 45:
                done += self.check(told)
        self.assertGreater(done, 60)

    def test_larger_tasks(self):
        for seed in range(150):
            told = made_task(seed, words=("a", "b", "c", "d"), most=12, views=3)
            change = solve(told)
            if change is not None:
                count = count_of(change)
                self.assertTrue(does(told, change))
                self.assertEqual(sorted(strange(told, change)),
                                 sorted(fresh_words(words_in_use(told), len(strange(told, change)))))
                self.assertIsNone(solve(told, most=count - 1) if count else None)
                self.assertEqual(min(count_of(each) for each in ends(told)), count)

    def test_the_wish_of_a_change_can_be_done(self):
        for seed in range(60):
            schema, facts, views, (_, may) = made_task(seed, words=("a", "b", "c"), most=8)
            change = ([fact for place, fact in enumerate(facts) if (place + seed) % 3 == 0], [])
            rest = after(schema, facts, change)
            may = [(True, first) for first, _ in may]
            told = (schema, facts, views, wish_of(schema, facts, views, change, may=may))
            self.assertLessEqual(count_of(solve(told)), len(facts) - len(rest))

    def test_arguments_and_answers(self):
        for seed in range(40):
            told = made_task(seed)
            pure(self, solve, told)
            pure(self, solve, told, most=2)
            pure(self, all_least, told)
            pure(self, lambda each: list(ends(each)), told)


class WholeSearch(unittest.TestCase):
    """Most answers are found by the first attempts; without these the search behind them has to find them."""

    def setUp(self):
        patch = mock.patch.object(searching, "PROBES", ())
        patch.start()
        self.addCleanup(patch.stop)

    def test_one_fact_for_several_atoms(self):
        view = (1, [((X,), [("emp", (X, Y)), ("emp", (Y, X))], [])])
        self.assertEqual(solve(task([(0, "add", ("n",))], views=[view])), ([], [emp("n", "n")]))
        view = (2, [((X, Z), [("emp", (X, Y)), ("emp", (Z, Y))], [])])
        self.assertEqual(count_of(solve(task([(0, "add", ("n", "n"))], views=[view], facts=[]))), 1)
        view = (2, [((X, Z), [("emp", (X, Y)), ("emp", (Y, Z)), ("emp", (Z, U))], [])])
        self.assertEqual(solve(task([(0, "add", ("n", "n"))], views=[view], facts=[])), ([], [emp("n", "n")]))

    def test_one_fact_for_several_rows(self):
        views = [(1, [((X,), [("emp", (X, Y))], [])]), (1, [((Y,), [("emp", (X, Y))], [])])]
        edits = [(0, "add", ("n",)), (1, "add", ("m",)), (0, "remove", ("bea",)), (1, "remove", ("y",))]
        self.assertEqual(solve(task(edits, views=views, facts=[ANN, BEA])), ([BEA], [emp("n", "m")]))

    def test_made_tasks(self):
        done = 0
        for seed in range(250):
            told = made_task(seed)
            change = solve(told)
            least = all_least(told)
            self.assertIs(change is None, least == [])
            if change is not None:
                self.assertEqual(count_of(change), count_of(least[0]))
                self.assertTrue(does(told, change))
                done += count_of(change) > 1
        self.assertGreater(done, 15)

    def test_small_changes(self):
        for seed in range(60):
            told = made_task(seed, words=("a",), most=3)
            counts = [count_of(change) for change in small_changes(told, 3, 1)]
            change = solve(told)
            if counts:
                self.assertEqual(count_of(change), min(counts))
            elif change is not None:
                self.assertGreater(count_of(change), 3)


class Interface(unittest.TestCase):
    def test_the_functions_are_defined_in_this_file(self):
        for function in [ends, solve, all_least]:
            self.assertEqual(function.__module__, searching.__name__)

    def test_ends_are_yielded(self):
        found = ends(task=task([OFF]))
        self.assertIs(iter(found), found)
        self.assertEqual(sorted(found), [([XC], []), ([ANN], [])])

    def test_the_names_of_the_arguments(self):
        self.assertEqual(solve(task=task([]), most=0), ([], []))
        self.assertEqual(all_least(task=task([])), [([], [])])
        self.assertEqual(ascending(SCHEMA, FACTS), FACTS)
        with self.assertRaises(TypeError):
            solve(task([]), 3)
