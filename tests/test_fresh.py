import itertools
import random
import unittest

from helpers import X, Y, pure
from wishshown import fresh
from wishshown.fresh import fresh_words, is_renamed_part, least_form, words_in_use
from wishshown.tables import ascending, place_of, words_of

SCHEMA = [("z", 2, None), ("b", 1, None), ("c", 3, None)]
VIEW = (1, [((X,), [("b", (X,))], [])])
ALL = [(True, True)] * 3


def word(text):
    return ("word", text)


def task(facts=(), views=(VIEW,), edits=()):
    return (SCHEMA, list(facts), list(views), (list(edits), ALL))


def plain_form(told, change):
    """The form of a change by trying all names of its words that are not in use."""
    deleted, inserted = change
    used = words_in_use(told)
    strange = [each for each in words_of(inserted) if each not in used]
    found = []
    for names in itertools.permutations(fresh_words(used, len(strange))):
        naming = dict(zip(strange, names))
        facts = [(name, tuple(naming.get(each, each) for each in row)) for name, row in inserted]
        found.append([(place_of(SCHEMA, name), row) for name, row in ascending(SCHEMA, facts)])
    return (deleted, [(SCHEMA[place][0], row) for place, row in min(found)])


class WordsInUse(unittest.TestCase):
    def test_words_in_facts(self):
        told = task([("z", ("q", "p")), ("b", ("x",)), ("b", ("q2",))])
        self.assertEqual(pure(self, words_in_use, told), ["p", "q", "q2", "x"])

    def test_words_in_rules(self):
        views = [(2, [((X, word("head")), [("z", (X, Y))], []), ((X, X), [("z", (X, word("atom"))), ("b", (X,))], [])]),
                 (1, [((X,), [("b", (X,))], [(word("left"), "=", X), (X, "!=", word("right"))])])]
        self.assertEqual(pure(self, words_in_use, task(views=views)), ["atom", "head", "left", "right"])
        # Words of all rules of all views, in whatever order they stand.
        more = views + [(1, [((word("zz"),), [("c", (X, word("aa"), word("10")))], [(word("2"), "!=", word("1"))])])]
        self.assertEqual(words_in_use(task(views=more)), ["1", "10", "2", "aa", "atom", "head", "left", "right", "zz"])

    def test_words_in_edits(self):
        edits = [(0, "add", ("new",)), (0, "remove", ("old",)), (0, "add", ("new",))]
        self.assertEqual(pure(self, words_in_use, task(edits=edits)), ["new", "old"])

    def test_names_of_tables_do_not_count(self):
        self.assertEqual(words_in_use(task()), [])
        self.assertEqual(words_in_use(task([("b", ("x",))])), ["x"])
        self.assertEqual(words_in_use(task([("b", ("b",))])), ["b"])

    def test_words_of_variables_do_not_count(self):
        views = [(1, [((("var", 7),), [("b", (("var", 7),))], [(("var", 7), "!=", ("var", 7))])])]
        self.assertEqual(words_in_use(task(views=views)), [])

    def test_each_once(self):
        told = task([("b", ("x",)), ("c", ("x", "x", "y"))], [(1, [((X,), [("z", (X, word("y")))], [])])],
                    [(0, "add", ("x",))])
        self.assertEqual(words_in_use(told), ["x", "y"])


class FreshWords(unittest.TestCase):
    def test_the_example(self):
        self.assertEqual(pure(self, fresh_words, ["a1", "b"], 3), ["a0", "a2", "a3"])

    def test_none(self):
        self.assertEqual(pure(self, fresh_words, ["a1"], 0), [])
        self.assertEqual(fresh_words([], 0), [])

    def test_words_that_are_in_use(self):
        self.assertEqual(fresh_words(["a0"], 2), ["a1", "a2"])
        self.assertEqual(fresh_words(["a0", "a1", "a3"], 3), ["a2", "a4", "a5"])
        self.assertEqual(fresh_words(["a", "a00", "a01", "b0", "0"], 2), ["a0", "a1"])

    def test_beyond_a9(self):
        self.assertEqual(fresh_words([], 12), ["a0", "a1", "a2", "a3", "a4", "a5", "a6", "a7", "a8", "a9", "a10", "a11"])
        self.assertEqual(fresh_words(["a10", "a9"], 11), [f"a{number}" for number in range(9)] + ["a11", "a12"])
        self.assertEqual(fresh_words([], 120)[-1], "a119")


class LeastForm(unittest.TestCase):
    def test_without_such_words(self):
        told = task([("z", ("p", "q"))], edits=[(0, "add", ("n",))])
        change = ([("z", ("p", "q"))], [("z", ("n", "p")), ("b", ("q",))])
        self.assertEqual(pure(self, least_form, told, change), change)
        self.assertEqual(least_form(told, ([], [])), ([], []))

    def test_one_word(self):
        told = task([("b", ("a0",))])
        self.assertEqual(pure(self, least_form, told, ([("b", ("a0",))], [("b", ("x",)), ("c", ("a0", "x", "x"))])),
                         ([("b", ("a0",))], [("b", ("a1",)), ("c", ("a0", "a1", "a1"))]))
        self.assertEqual(least_form(told, ([], [("b", ("a5",))])), ([], [("b", ("a1",))]))

    def test_words_that_change_places(self):
        told = task([("b", ("p",))])
        self.assertEqual(pure(self, least_form, told, ([], [("z", ("a1", "p")), ("z", ("p", "a0"))])),
                         ([], [("z", ("a0", "p")), ("z", ("p", "a1"))]))
        self.assertEqual(least_form(told, ([], [("z", ("x", "y")), ("b", ("x",))])),
                         ([], [("z", ("a0", "a1")), ("b", ("a0",))]))
        self.assertEqual(least_form(told, ([], [("z", ("w", "x")), ("z", ("x", "y")), ("z", ("y", "y"))])),
                         ([], [("z", ("a0", "a0")), ("z", ("a1", "a0")), ("z", ("a2", "a1"))]))

    def test_the_inserted_facts_are_put_in_order(self):
        told = task([("b", ("m",))])
        self.assertEqual(least_form(told, ([], [("b", ("k",)), ("c", ("k", "m", "m"))])),
                         ([], [("b", ("a0",)), ("c", ("a0", "m", "m"))]))
        self.assertEqual(least_form(told, ([], [("z", ("k", "m")), ("z", ("m", "m"))])),
                         ([], [("z", ("a0", "m")), ("z", ("m", "m"))]))
        self.assertEqual(least_form(told, ([], [("z", ("m", "m")), ("z", ("n", "m"))])),
                         ([], [("z", ("a0", "m")), ("z", ("m", "m"))]))

    def test_rows_are_compared_as_python_compares_them(self):
        told = task([("b", (f"a{number}",)) for number in (0, 1, 3, 4, 5, 6, 7, 8, 9)])
        # The first two fresh words are a2 and a10, and the row with a10 is the lesser one.
        self.assertEqual(fresh_words(words_in_use(told), 2), ["a2", "a10"])
        self.assertEqual(least_form(told, ([], [("z", ("x", "y"))])), ([], [("z", ("a10", "a2"))]))

    def test_made_changes(self):
        maker = random.Random(7)
        for number in range(600):
            used = [("z", ("p", "a1"))] if number % 2 else []
            used += [("b", (f"a{place}",)) for place in (0, 3, 4, 5, 6, 7, 8, 9)] if number % 3 == 0 else []
            told = task(ascending(SCHEMA, used))
            words = ["p", "q", "v", "w", "x", "y"][:maker.randint(1, 6 if number % 2 else 5)]
            facts = [(name, tuple(maker.choice(words) for _ in range(width)))
                     for name, width, _ in (maker.choice(SCHEMA) for _ in range(maker.randint(0, 7)))]
            change = ([], [fact for fact in ascending(SCHEMA, facts) if fact not in used])
            form = least_form(told, change)
            self.assertEqual(form, plain_form(told, change))
            self.assertEqual(least_form(told, form), form)

    def test_many_words_that_are_like_one_another(self):
        change = ([], [("b", (f"x{number}",)) for number in range(9)])
        self.assertEqual(least_form(task(), change), ([], [("b", (f"a{number}",)) for number in range(9)]))


class RenamedPart(unittest.TestCase):
    def test_parts(self):
        others = [("z", ("a0", "p")), ("z", ("a1", "a0")), ("b", ("a1",))]
        for facts, told in [([], True), ([("b", ("x",))], True), ([("z", ("x", "p"))], True),
                            ([("z", ("p", "x"))], False), ([("b", ("p",))], False), ([("z", ("x", "x"))], False),
                            ([("z", ("x", "y")), ("b", ("x",))], True), ([("z", ("x", "y")), ("b", ("y",))], False),
                            ([("z", ("x", "p")), ("b", ("x",))], False),
                            ([("z", ("x", "p")), ("z", ("y", "x")), ("b", ("y",))], True),
                            ([("z", ("x", "y")), ("z", ("y", "x"))], False), ([("z", ("x", "y")), ("b", ("z",))], False)]:
            self.assertIs(pure(self, is_renamed_part, ["p"], facts, others), told, facts)


class Interface(unittest.TestCase):
    def test_the_functions_are_defined_in_this_file(self):
        for function in [words_in_use, fresh_words, least_form]:
            self.assertEqual(function.__module__, fresh.__name__)

    def test_the_names_of_the_arguments(self):
        self.assertEqual(words_in_use(task=task()), [])
        self.assertEqual(fresh_words(used=[], count=1), ["a0"])
        self.assertEqual(least_form(task=task(), change=([], [])), ([], []))
