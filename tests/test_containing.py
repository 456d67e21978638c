import itertools
import unittest

from helpers import X, Y, Z, Maker, made, plain_assignments, plain_row, plain_view_rows, pure
from wishshown import containing
from wishshown.containing import (
    collection_of, contains, equal_views, patterns, separating, shown, words_of_views,
)
from wishshown.fresh import fresh_words
from wishshown.tables import ascending

SCHEMA = [("box", 2, None), ("tag", 1, 1)]
A, B, RED = ("word", "a"), ("word", "b"), ("word", "red")
LOOPS = (1, [((X,), [("box", (X, X))], [])])
STARTS = (1, [((X,), [("box", (X, Y))], [])])
ENDS = (1, [((Y,), [("box", (X, Y))], [])])
# Rows from which one can go two steps.
TWO = (1, [((X,), [("box", (X, Y)), ("box", (Y, Z))], [])])


def plain_patterns(rule, words):
    """The patterns of the rule, by trying all words for all variables."""
    variables = sorted({n for _, terms in rule[1] for kind, n in terms if kind == "var"})
    every = list(words) + fresh_words(words, len(variables))
    found = []
    for chosen in itertools.product(range(len(every)), repeat=len(variables)):
        come = [max([len(words) - 1] + list(chosen[:place])) + 1 for place in range(len(chosen))]
        given = dict(zip(variables, [every[number] for number in chosen]))
        sides = [made(("", (left, right)), given)[1] + (sign,) for left, sign, right in rule[2]]
        if all(number <= most for number, most in zip(chosen, come)):
            if all((left == right) == (sign == "=") for left, right, sign in sides):
                found.append(tuple(given.items()))
    return found


def plain_collection(schema, rule, pattern):
    return ascending(schema, [made(atom, dict(pattern)) for atom in rule[1]])


def plain_separating(schema, view, other):
    """What point 74 says, pattern by pattern."""
    words = words_of_views([view, other])
    for rule in other[1]:
        for pattern in plain_patterns(rule, words):
            facts = plain_collection(schema, rule, pattern)
            if plain_row(rule, pattern) not in plain_view_rows(facts, view):
                return (facts, plain_row(rule, pattern))
    return None


def plain_shown(schema, view, other):
    """What point 75 says, pattern by pattern."""
    found = []
    for place, rule in enumerate(other[1]):
        for pattern in plain_patterns(rule, words_of_views([view, other])):
            facts = plain_collection(schema, rule, pattern)
            row = plain_row(rule, pattern)
            every = [(own, each) for own, mine in enumerate(view[1]) for each in plain_assignments(facts, mine)
                     if plain_row(mine, each) == row]
            found.append((place, pattern) + every[0])
    return found


def made_views(seed):
    """A schema and two views of the same width, often the second one made of the first one."""
    maker = Maker(seed)
    chance = maker.random
    schema = maker.schema()
    words = ["a", "b"][:chance.randint(1, 2)]
    width = chance.randint(1, 2)
    view = (width, [maker.rule(schema, words, width) for _ in range(chance.randint(1, 2))])
    other = (width, [maker.rule(schema, words, width) for _ in range(chance.randint(1, 2))])
    if chance.random() < 0.7:
        head, atoms, conditions = chance.choice(view[1])
        more = (atoms + chance.choice(other[1])[1])[:3]
        other = (width, [(head, chance.choice([more, more[::-1]]), conditions[:1])] + chance.choice([[], view[1]]))
    return (schema, view, other)


class Words(unittest.TestCase):
    def test_words_of_views(self):
        rule = ((X, RED), [("box", (X, ("word", "c1"))), ("tag", (("word", "0"),))], [(X, "!=", A), (B, "=", X)])
        other = ((X, X), [("box", (X, X))], [])
        self.assertEqual(pure(self, words_of_views, [(2, [rule])]), ["0", "a", "b", "c1", "red"])
        self.assertEqual(pure(self, words_of_views, [(2, [other])]), [])
        views = [(2, [other, ((X, A), [("box", (X, B))], [])]), (1, [((RED,), [("tag", (RED,))], [(A, "=", A)])])]
        self.assertEqual(pure(self, words_of_views, views), ["a", "b", "red"])

    def test_names_of_tables_do_not_count(self):
        self.assertEqual(words_of_views([(1, [((X,), [("zoo", (X,))], [])])]), [])


class Patterns(unittest.TestCase):
    def test_the_example(self):
        rule = ((X,), [("box", (X, Y))], [])
        self.assertEqual(pure(self, patterns, rule, []), [((0, "a0"), (1, "a0")), ((0, "a0"), (1, "a1"))])

    def test_no_variables(self):
        self.assertEqual(pure(self, patterns, ((RED,), [("tag", (RED,))], []), ["red"]), [()])
        self.assertEqual(pure(self, patterns, ((RED,), [("tag", (RED,))], [(A, "=", B)]), ["red"]), [])
        self.assertEqual(patterns(((RED,), [("tag", (RED,))], [(A, "!=", B), (B, "=", B)]), []), [()])

    def test_words_come_ahead_of_fresh_ones(self):
        rule = ((X,), [("tag", (X,))], [])
        self.assertEqual(pure(self, patterns, rule, ["b", "red"]), [((0, "b"),), ((0, "red"),), ((0, "a0"),)])
        self.assertEqual(patterns(rule, ["z"]), [((0, "z"),), ((0, "a0"),)])

    def test_words_in_use_that_look_like_fresh_ones(self):
        rule = ((Y,), [("box", (Y, ("var", 7)))], [])
        told = [(first, second) for (_, first), (_, second) in pure(self, patterns, rule, ["a0", "a2"])]
        self.assertEqual(told, [("a0", "a0"), ("a0", "a2"), ("a0", "a1"), ("a2", "a0"), ("a2", "a2"), ("a2", "a1"),
                                ("a1", "a0"), ("a1", "a2"), ("a1", "a1"), ("a1", "a3")])
        told = [word for ((_, word),) in patterns(((X,), [("tag", (X,))], []), ["a0", "a1", "a10", "a2", "a3"])]
        self.assertEqual(told, ["a0", "a1", "a10", "a2", "a3", "a4"])

    def test_three_variables(self):
        rule = ((X,), [("box", (X, Z)), ("tag", (Y,))], [])
        told = ["".join(word[1] for _, word in pattern) for pattern in pure(self, patterns, rule, [])]
        self.assertEqual(told, ["000", "001", "010", "011", "012"])

    def test_many_variables(self):
        terms = [("var", n) for n in range(8)]
        rule = (tuple(terms[:4]), [("wide", tuple(terms[:4])), ("wide", tuple(terms[4:]))], [])
        told = patterns((rule[0], [("wide", tuple(terms[:4])), ("pair", tuple(terms[4:6]))], []), [])
        self.assertEqual(len(told), 203)
        self.assertEqual(told, sorted(told))

    def test_conditions_of_both_signs(self):
        rule = ((X,), [("box", (X, Y))], [(X, "!=", Y)])
        self.assertEqual(pure(self, patterns, rule, []), [((0, "a0"), (1, "a1"))])
        rule = ((X,), [("box", (X, Y))], [(X, "=", Y)])
        self.assertEqual(pure(self, patterns, rule, ["b"]), [((0, "b"), (1, "b")), ((0, "a0"), (1, "a0"))])
        rule = ((X,), [("box", (X, Y))], [(X, "=", RED), (Y, "!=", RED)])
        self.assertEqual(pure(self, patterns, rule, ["red"]), [((0, "red"), (1, "a0"))])
        rule = ((X,), [("box", (X, Y))], [(X, "=", Y), (Y, "!=", X)])
        self.assertEqual(pure(self, patterns, rule, ["red"]), [])

    def test_made_rules(self):
        for seed in range(150):
            schema, view, other = made_views(seed)
            for words in [[], ["a"], words_of_views([view, other]), ["a0", "b"]]:
                for rule in view[1] + other[1]:
                    self.assertEqual(patterns(rule, words), plain_patterns(rule, words))


class Collection(unittest.TestCase):
    def test_ascending_and_each_fact_once(self):
        rule = ((X,), [("tag", (Y,)), ("box", (Y, X)), ("box", (X, Y))], [])
        told = pure(self, collection_of, SCHEMA, rule, ((0, "b"), (1, "a0")))
        self.assertEqual(told, [("box", ("a0", "b")), ("box", ("b", "a0")), ("tag", ("a0",))])
        told = pure(self, collection_of, SCHEMA, rule, ((0, "c"), (1, "c")))
        self.assertEqual(told, [("box", ("c", "c")), ("tag", ("c",))])

    def test_keys_play_no_part(self):
        rule = ((X,), [("box", (X, Y)), ("box", (X, Z))], [])
        told = collection_of([("box", 2, 1)], rule, ((0, "p"), (1, "q"), (2, "r")))
        self.assertEqual(told, [("box", ("p", "q")), ("box", ("p", "r"))])


class Containing(unittest.TestCase):
    def check(self, view, other, answer, schema=SCHEMA):
        """Check all functions on two views; answer tells whether the view contains the other one."""
        self.assertIs(pure(self, contains, schema, view, other), answer)
        parted = pure(self, separating, schema, view, other)
        told = pure(self, shown, schema, view, other)
        self.assertEqual(parted, plain_separating(schema, view, other))
        self.assertIs(parted is None, answer)
        self.assertEqual(told, plain_shown(schema, view, other) if answer else None)
        if not answer:
            facts, row = parted
            self.assertIn(row, plain_view_rows(facts, other))
            self.assertNotIn(row, plain_view_rows(facts, view))
        both = answer and contains(schema, other, view)
        self.assertIs(pure(self, equal_views, schema, view, other), both)

    def test_the_example(self):
        self.assertEqual(pure(self, separating, [("box", 2, None)], LOOPS, STARTS), ([("box", ("a0", "a1"))], ("a0",)))
        self.assertIsNone(pure(self, separating, [("box", 2, None)], STARTS, LOOPS))
        self.check(LOOPS, STARTS, False)
        self.check(STARTS, LOOPS, True)

    def test_equal_but_written_otherwise(self):
        for view, other in [(STARTS, (1, [((Z,), [("box", (Z, X))], [])])),
                            (STARTS, (1, [((X,), [("box", (X, Y)), ("box", (X, Z))], [])])),
                            (LOOPS, (1, [((X,), [("box", (X, Y)), ("box", (Y, X))], [(X, "=", Y)])])),
                            (STARTS, (1, STARTS[1] + LOOPS[1])),
                            ((1, STARTS[1] + ENDS[1]), (1, ENDS[1] + STARTS[1])),
                            ((1, [((A,), [("box", (A, Y))], [])]), (1, [((X,), [("box", (X, Y))], [(X, "=", A)])]))]:
            self.check(view, other, True)
            self.check(other, view, True)
            self.assertIs(equal_views(SCHEMA, view, other), True)
            self.assertIs(equal_views(SCHEMA, other, view), True)

    def test_one_inside_of_the_other(self):
        for view, other in [(STARTS, TWO), (STARTS, LOOPS), (TWO, LOOPS), ((1, STARTS[1] + ENDS[1]), STARTS),
                            (STARTS, (1, [((X,), [("box", (X, RED))], [])])),
                            (STARTS, (1, [((X,), [("box", (X, Y))], [(X, "!=", Y)])])),
                            (STARTS, (1, [((X,), [("box", (X, Y)), ("tag", (Y,))], [])]))]:
            self.check(view, other, True)
            self.check(other, view, False)
            self.assertIs(equal_views(SCHEMA, view, other), False)

    def test_neither(self):
        for view, other in [(STARTS, ENDS), (STARTS, (1, [((X,), [("tag", (X,))], [])])),
                            ((1, [((X,), [("box", (X, A))], [])]), (1, [((X,), [("box", (X, B))], [])])),
                            ((1, [((A,), [("tag", (X,))], [])]), (1, [((B,), [("tag", (X,))], [])])),
                            ((1, [((X,), [("tag", (X,))], [(X, "=", A)])]),
                             (1, [((X,), [("tag", (X,))], [(X, "!=", A)])]))]:
            self.check(view, other, False)
            self.check(other, view, False)
            self.assertIs(equal_views(SCHEMA, view, other), False)

    def test_several_rules_together_contain_a_rule(self):
        apart = ((X,), [("box", (X, Y))], [(X, "!=", Y)])
        alike = ((X,), [("box", (X, Y))], [(X, "=", Y)])
        self.check((1, [apart, alike]), STARTS, True)
        self.check((1, [apart]), STARTS, False)
        self.check((1, [alike]), STARTS, False)
        self.assertIs(equal_views(SCHEMA, (1, [apart, alike]), STARTS), True)
        red = ((X,), [("box", (X, RED))], [])
        other = ((X,), [("box", (X, Y))], [(Y, "!=", RED)])
        self.check((1, [red, other]), STARTS, True)
        self.check((1, [red, alike]), STARTS, False)

    def test_three_rules_together(self):
        tags = [((X,), [("box", (X, Y)), ("tag", (Y,))], [(Y, sign, word)]) for sign, word in
                [("=", A), ("=", B), ("!=", A)]]
        self.check((1, tags), (1, [((X,), [("box", (X, Y)), ("tag", (Y,))], [])]), True)
        self.check((1, tags[:2]), (1, [((X,), [("box", (X, Y)), ("tag", (Y,))], [])]), False)
        self.check((1, tags[1:]), (1, [((X,), [("box", (X, Y)), ("tag", (Y,))], [])]), False)

    def test_words_and_conditions(self):
        view = (1, [((X,), [("box", (X, Y))], [(Y, "!=", RED), (X, "!=", Y)])])
        self.check(view, (1, [((X,), [("box", (X, A))], [(X, "!=", A)])]), True)
        self.check(view, (1, [((X,), [("box", (X, A))], [])]), False)
        self.check(view, (1, [((X,), [("box", (X, Y))], [(Y, "!=", X)])]), False)
        self.check(view, (1, [((X,), [("box", (X, Y))], [(Y, "!=", X), (RED, "!=", Y)])]), True)
        self.check(view, view, True)

    def test_the_first_rule_and_the_first_pattern_separate(self):
        other = (1, [LOOPS[1][0], ((X,), [("box", (X, Y)), ("tag", (X,))], []), ((X,), [("tag", (X,))], [])])
        self.check(LOOPS, other, False)
        self.assertEqual(separating(SCHEMA, LOOPS, other), ([("box", ("a0", "a1")), ("tag", ("a0",))], ("a0",)))
        view = (1, [((X,), [("box", (X, RED))], []), ((X,), [("box", (X, X))], [])])
        self.check(view, STARTS, False)
        self.assertEqual(separating(SCHEMA, view, STARTS), ([("box", ("red", "a0"))], ("red",)))

    def test_no_pattern_fulfills_the_conditions(self):
        never = (1, [((X,), [("box", (X, Y))], [(X, "=", Y), (X, "!=", Y)])])
        for view in [LOOPS, STARTS, (1, [((A,), [("tag", (B,))], [])])]:
            self.check(view, never, True)
            self.assertEqual(shown(SCHEMA, view, never), [])
            self.check(never, view, False)
        self.check(never, never, True)
        self.check(never, (1, [((X,), [("tag", (X,))], [(A, "=", B)])]), True)
        self.check(LOOPS, (1, never[1] + LOOPS[1]), True)

    def test_what_shows_it(self):
        view = (1, [LOOPS[1][0], STARTS[1][0]])
        self.assertEqual(shown(SCHEMA, view, STARTS), [
            (0, ((0, "a0"), (1, "a0")), 0, ((0, "a0"),)),
            (0, ((0, "a0"), (1, "a1")), 1, ((0, "a0"), (1, "a1"))),
        ])
        told = shown(SCHEMA, STARTS, (1, LOOPS[1] + [((X,), [("box", (X, A)), ("box", (X, Y))], [])]))
        self.assertEqual([place for place, *_ in told], [0, 0, 1, 1, 1, 1, 1])
        # Of the assignments with the row the first one is told.
        self.assertEqual(told[3], (1, ((0, "a"), (1, "a0")), 0, ((0, "a"), (1, "a"))))

    def test_words_of_both_views_count(self):
        # The word red stands in the view alone, but it is what separates the two.
        view = (1, [((X,), [("tag", (X,))], [(X, "!=", RED)])])
        self.check(view, (1, [((X,), [("tag", (X,))], [])]), False)
        self.assertEqual(separating(SCHEMA, view, (1, [((X,), [("tag", (X,))], [])])), ([("tag", ("red",))], ("red",)))

    def test_made_views(self):
        counts = {}
        for seed in range(500):
            schema, view, other = made_views(seed)
            parted = plain_separating(schema, view, other)
            self.assertEqual(separating(schema, view, other), parted, seed)
            self.assertIs(contains(schema, view, other), parted is None)
            self.assertEqual(shown(schema, view, other), None if parted else plain_shown(schema, view, other))
            back = contains(schema, other, view)
            self.assertIs(equal_views(schema, view, other), parted is None and back)
            counts[(parted is None, back)] = counts.get((parted is None, back), 0) + 1
        self.assertTrue(all(counts.get((one, two), 0) > 20 for one in (True, False) for two in (True, False)), counts)

    def test_collections_of_facts(self):
        for seed in range(300):
            schema, view, other = made_views(seed)
            facts = Maker(seed + 1000).facts(schema, ["a", "b", "q"], 8)
            if contains(schema, view, other):
                self.assertLessEqual(set(plain_view_rows(facts, other)), set(plain_view_rows(facts, view)))

    def test_many_variables_and_words(self):
        terms = [("var", n) for n in range(7)]
        schema = [("wide", 4, None), ("far", 4, None)]
        atoms = [("wide", tuple(terms[:4])), ("far", tuple(terms[3:])), ("far", (A, B, RED, X))]
        view = (4, [(tuple(terms[:4]), atoms, [])])
        other = (4, [(tuple(terms[:4]), atoms[::-1], [(X, "!=", A), (X, "!=", B)])])
        self.assertIs(contains(schema, view, other), True)
        self.assertIs(contains(schema, other, view), False)
        self.assertEqual(separating(schema, other, view)[1], ("a", "a", "a", "a"))


class Interface(unittest.TestCase):
    def test_the_functions_are_defined_in_this_file(self):
        for function in [words_of_views, patterns, collection_of, contains, separating, shown, equal_views]:
            self.assertEqual(function.__module__, containing.__name__)

    def test_the_names_of_the_arguments(self):
        rule = LOOPS[1][0]
        self.assertEqual(words_of_views(views=[LOOPS]), [])
        self.assertEqual(patterns(rule=rule, words=[]), [((0, "a0"),)])
        self.assertEqual(collection_of(schema=SCHEMA, rule=rule, pattern=((0, "b"),)), [("box", ("b", "b"))])
        self.assertIs(contains(schema=SCHEMA, view=LOOPS, other=LOOPS), True)
        self.assertIsNone(separating(schema=SCHEMA, view=LOOPS, other=LOOPS))
        self.assertEqual(len(shown(schema=SCHEMA, view=LOOPS, other=LOOPS)), 1)
        self.assertIs(equal_views(schema=SCHEMA, view=LOOPS, other=LOOPS), True)
