import itertools
import unittest

from helpers import Maker, all_facts, pure
from wishshown import tables
from wishshown.errors import (
    AlreadyThere, BadKey, BadName, BadRow, BadSize, BadWidth, KeyBroken, NotAscending, NotThere, UnknownTable,
)
from wishshown.tables import (
    after, ascending, check_change, check_database, check_facts, check_schema, compose, difference, inverse, is_word,
    keys_hold, rows_of, same_key, words_of,
)

# The names stand in falling order, so that the place of a table and its name give different orders.
SCHEMA = [("pet", 2, 1), ("kind", 1, None), ("home", 3, 2), ("ant", 1, 1)]
CAT, DOG, FOX = ("pet", ("ada", "cat")), ("pet", ("bo", "dog")), ("pet", ("bo", "fox"))
K1, K2 = ("kind", ("cat",)), ("kind", ("dog",))
H1, H2, H3 = ("home", ("a", "b", "c")), ("home", ("a", "b", "d")), ("home", ("a", "c", "c"))
ANT = ("ant", ("a",))
NOT_WORDS = ["", "A", "a b", "a_", "a-", "\xe4", "a\n", "?0", "a" * 13, 1, 0, True, None, 1.0, b"a", ["a"], ("a",), {}]
NOT_WHOLES = [0, 5, -1, True, False, None, "1", 1.0, [1]]


class Words(unittest.TestCase):
    def test_words(self):
        for word in ["a", "z", "0", "9", "a0", "abcdefghijkl", "mnopqrstuvwx", "yz0123456789", "000000000000"]:
            self.assertIs(is_word(word), True, word)

    def test_other_values(self):
        for value in NOT_WORDS + [set(), "abcdefghijklm", "\u0661", "a" * 1000, ("a", "b"), ["a", "b"], object(), is_word]:
            self.assertIs(is_word(value), False, repr(value))

    def test_every_other_character(self):
        letters = "abcdefghijklmnopqrstuvwxyz0123456789"
        for code in range(0, 400):
            self.assertIs(is_word("a" + chr(code)), chr(code) in letters)


class Schemas(unittest.TestCase):
    def bad(self, error, schema):
        with self.assertRaises(error):
            check_schema(schema)

    def test_right_ones(self):
        for schema in [SCHEMA, [("a", 1, None)], [("a", 4, 4)], [("b", 4, 1), ("a", 1, 1)]]:
            self.assertIsNone(pure(self, check_schema, schema))

    def test_sizes(self):
        self.bad(BadSize, [])
        self.bad(BadSize, [(name, 1, None) for name in "abcde"])
        self.assertIsNone(check_schema([(name, 1, None) for name in "abcd"]))
        self.bad(BadSize, [("", 0, 0)] * 5)

    def test_names(self):
        for name in NOT_WORDS:
            self.bad(BadName, [(name, 1, None)])
            self.bad(BadName, [("a", 1, None), (name, 0, 9)])
        self.bad(BadName, [("a", 1, None), ("b", 1, None), ("a", 2, 1)])

    def test_widths(self):
        for width in NOT_WHOLES:
            self.bad(BadWidth, [("a", width, None)])
            self.bad(BadWidth, [("a", width, 9)])

    def test_keys(self):
        for key in [0, 3, -1, True, False, "1", 1.0, [1], ()]:
            self.bad(BadKey, [("a", 2, key)])
        for width, key in itertools.product(range(1, 5), range(1, 5)):
            if key <= width:
                self.assertIsNone(check_schema([("a", width, key)]))
            else:
                self.bad(BadKey, [("a", width, key)])

    def test_the_first_error_that_is_due(self):
        self.bad(BadName, [("A", 0, 9), ("a", 1, None)])
        self.bad(BadWidth, [("a", 1, None), ("a", 0, 9)])
        self.bad(BadKey, [("a", 1, None), ("a", 1, 9)])
        self.bad(BadName, [("a", 1, None), ("a", 1, 1), ("b", 0, 9)])
        self.bad(BadKey, [("a", 1, 2), ("B", 1, None)])
        self.bad(BadWidth, [("a", 5, 5), ("", 1, None)])


class Facts(unittest.TestCase):
    def bad(self, error, facts):
        for check in (check_facts, check_database):
            with self.assertRaises(error):
                check(SCHEMA, facts)

    def test_right_ones(self):
        for facts in [[], [CAT, DOG, K1, K2, H1, H3, ANT], [K2], [ANT]]:
            self.assertIsNone(pure(self, check_facts, SCHEMA, facts))
            self.assertIsNone(pure(self, check_database, SCHEMA, facts))
        self.assertIsNone(check_facts(SCHEMA, [DOG, FOX, H1, H2]))

    def test_tables(self):
        for name in ["pets", "", "PET", 1, None, True, ["pet"], ("pet",), {}]:
            self.bad(UnknownTable, [(name, ("ada", "cat"))])
            self.bad(UnknownTable, [CAT, (name, ())])

    def test_rows(self):
        for row in [(), ("a",), ("a", "b", "c")]:
            self.bad(BadRow, [("pet", row)])
        for value in NOT_WORDS:
            self.bad(BadRow, [("pet", ("ada", value))])
            self.bad(BadRow, [("pet", (value, "ada"))])

    def test_order(self):
        self.bad(NotAscending, [CAT, CAT])
        self.bad(NotAscending, [DOG, CAT])
        self.bad(NotAscending, [K1, CAT])
        self.bad(NotAscending, [ANT, H1])
        self.bad(NotAscending, [H2, H1])
        self.bad(NotAscending, [("pet", ("b", "z")), ("pet", ("a10", "z"))])

    def test_the_first_error_that_is_due(self):
        self.bad(UnknownTable, [("cat", ("",)), CAT, CAT])
        self.bad(BadRow, [DOG, ("pet", ("ada", "CAT"))])
        self.bad(BadRow, [DOG, ("pet", ("ada",)), ("dog", ())])
        self.bad(NotAscending, [DOG, CAT, ("pet", ("x",))])
        self.bad(NotAscending, [K1, CAT, ("cat", ())])

    def test_the_names_of_other_tables_do_not_count(self):
        with self.assertRaises(NotAscending):
            check_facts([("b", 1, None), ("a", 1, None)], [("a", ("x",)), ("b", ("x",))])
        self.assertIsNone(check_facts([("b", 1, None), ("a", 1, None)], [("b", ("x",)), ("a", ("x",))]))


class Databases(unittest.TestCase):
    def test_sizes(self):
        facts = [("kind", (f"k{place:02}",)) for place in range(25)]
        self.assertIsNone(check_database(SCHEMA, facts[:24]))
        with self.assertRaises(BadSize):
            check_database(SCHEMA, facts)
        with self.assertRaises(BadSize):
            check_database(SCHEMA, [("x", ())] * 25)
        self.assertIsNone(check_facts(SCHEMA, facts))

    def broken(self, facts, first, second):
        with self.assertRaises(KeyBroken) as caught:
            check_database(SCHEMA, facts)
        self.assertEqual((caught.exception.first, caught.exception.second), (first, second))

    def test_keys(self):
        self.broken([CAT, DOG, FOX], DOG, FOX)
        self.broken([H1, H2, H3], H1, H2)
        more = ("home", ("a", "b", "e"))
        self.broken([H1, H2, more], H1, H2)
        self.broken([DOG, FOX, H1, H2], DOG, FOX)
        self.broken([CAT, ("pet", ("ada", "x")), ("pet", ("ada", "y")), DOG, FOX], CAT, ("pet", ("ada", "x")))
        self.assertIsNone(check_database(SCHEMA, [K1, K2, H1, H3]))

    def test_the_second_one_is_the_first_in_order_with_the_key_of_an_earlier_one(self):
        schema = [("a", 2, 2), ("b", 1, None), ("c", 3, 1)]
        facts = [("a", ("x", "y")), ("a", ("x", "z")), ("c", ("m", "a", "a")), ("c", ("n", "a", "a")),
                 ("c", ("n", "a", "b")), ("c", ("n", "b", "b"))]
        with self.assertRaises(KeyBroken) as caught:
            check_database(schema, facts)
        self.assertEqual(caught.exception.first, ("c", ("n", "a", "a")))
        self.assertEqual(caught.exception.second, ("c", ("n", "a", "b")))

    def test_facts_come_before_keys(self):
        for error, facts in [(NotAscending, [DOG, FOX, CAT]), (BadRow, [DOG, FOX, ("kind", ())]),
                             (UnknownTable, [DOG, FOX, ("x", ("a",))])]:
            with self.assertRaises(error):
                check_database(SCHEMA, facts)


class Changes(unittest.TestCase):
    BASE = [CAT, DOG, K1]

    def test_right_ones(self):
        for change in [([], []), ([CAT], []), ([], [FOX, K2]), ([CAT, DOG, K1], [FOX, K2, H1, H2])]:
            self.assertIsNone(pure(self, check_change, SCHEMA, self.BASE, change))

    def test_more_than_a_database_holds(self):
        many = [("kind", (f"k{place:02}",)) for place in range(60)]
        self.assertIsNone(check_change(SCHEMA, self.BASE, ([], many)))
        self.assertIsNone(check_change(SCHEMA, many, (many, [])))

    def test_the_facts_are_checked_first(self):
        for error, facts in [(UnknownTable, [("x", ())]), (BadRow, [("kind", ())]), (NotAscending, [K1, K1])]:
            for change in [(facts, []), ([], facts), ([FOX], facts), (facts, [CAT])]:
                with self.assertRaises(error):
                    check_change(SCHEMA, self.BASE, change)

    def test_the_deleted_ones_are_checked_ahead_of_the_inserted_ones(self):
        with self.assertRaises(NotAscending):
            check_change(SCHEMA, self.BASE, ([DOG, CAT], [("x", ())]))
        with self.assertRaises(UnknownTable):
            check_change(SCHEMA, self.BASE, ([("x", ())], [DOG, CAT]))

    def test_not_there(self):
        with self.assertRaises(NotThere) as caught:
            check_change(SCHEMA, self.BASE, ([CAT, FOX, K2], [CAT]))
        self.assertEqual(caught.exception.fact, FOX)

    def test_already_there(self):
        with self.assertRaises(AlreadyThere) as caught:
            check_change(SCHEMA, self.BASE, ([CAT], [FOX, K1, K2]))
        self.assertEqual(caught.exception.fact, K1)
        with self.assertRaises(AlreadyThere) as caught:
            check_change(SCHEMA, self.BASE, ([CAT], [CAT]))
        self.assertEqual(caught.exception.fact, CAT)


class Orders(unittest.TestCase):
    def test_ascending(self):
        facts = [ANT, H2, K1, DOG, CAT, H1, K1, FOX, DOG, CAT]
        self.assertEqual(pure(self, ascending, SCHEMA, facts), [CAT, DOG, FOX, K1, H1, H2, ANT])
        self.assertEqual(ascending(SCHEMA, []), [])
        self.assertEqual(pure(self, ascending, SCHEMA, [CAT, DOG]), [CAT, DOG])

    def test_many(self):
        facts = all_facts([("b", 2, None), ("a", 1, 1)], [f"{place}" for place in range(7)])
        self.assertEqual(len(facts), 56)
        self.assertEqual(ascending([("b", 2, None), ("a", 1, 1)], facts[::-1] + facts), facts)

    def test_rows_of(self):
        facts = [CAT, DOG, FOX, H1]
        self.assertEqual(pure(self, rows_of, facts, "pet"), [("ada", "cat"), ("bo", "dog"), ("bo", "fox")])
        self.assertEqual(rows_of(facts, "home"), [("a", "b", "c")])
        self.assertEqual(rows_of(facts, "kind"), [])
        self.assertEqual(rows_of(facts, "none"), [])
        self.assertEqual(rows_of([], "pet"), [])

    def test_words_of(self):
        self.assertEqual(pure(self, words_of, [DOG, CAT, CAT, H1]), ["a", "ada", "b", "bo", "c", "cat", "dog"])
        self.assertEqual(words_of([]), [])
        self.assertEqual(words_of([("home", ("x", "x", "x")), K1]), ["cat", "x"])


class Keys(unittest.TestCase):
    def test_same_key(self):
        for first, second, told in [
            (DOG, FOX, True), (FOX, DOG, True), (DOG, DOG, True), (CAT, DOG, False), (K1, K1, False), (K1, K2, False),
            (H1, H2, True), (H1, H3, False), (ANT, ANT, True), (CAT, K1, False), (ANT, ("kind", ("a",)), False),
        ]:
            self.assertIs(pure(self, same_key, SCHEMA, first, second), told, (first, second))

    def test_same_words_in_different_tables(self):
        schema = [("b", 1, 1), ("a", 1, 1)]
        self.assertIs(same_key(schema, ("b", ("x",)), ("a", ("x",))), False)
        self.assertIs(keys_hold(schema, [("b", ("x",)), ("a", ("x",))]), True)

    def test_keys_hold(self):
        for facts, told in [
            ([], True), ([CAT], True), ([CAT, DOG], True), ([DOG, FOX], False), ([CAT, DOG, FOX], False),
            ([K1, K2], True), ([H1, H2], False), ([H1, H3], True), ([CAT, H1, H2], False), ([ANT], True),
            ([CAT, CAT], True), ([DOG, FOX, FOX], False),
        ]:
            self.assertIs(pure(self, keys_hold, SCHEMA, facts), told, facts)

    def test_many_facts(self):
        facts = [("pet", (f"p{place:02}", "x")) for place in range(40)]
        self.assertIs(keys_hold(SCHEMA, facts), True)
        self.assertIs(keys_hold(SCHEMA, facts + [("pet", ("p39", "y"))]), False)


class Doing(unittest.TestCase):
    def test_after(self):
        base = [CAT, DOG, K1]
        self.assertEqual(pure(self, after, SCHEMA, base, ([DOG], [FOX, H1, ANT])), [CAT, FOX, K1, H1, ANT])
        self.assertEqual(pure(self, after, SCHEMA, base, ([], [])), base)
        self.assertEqual(after(SCHEMA, base, (base, [])), [])
        self.assertEqual(after(SCHEMA, [], ([], [FOX, K1])), [FOX, K1])
        self.assertEqual(after(SCHEMA, base, ([], [FOX])), [CAT, DOG, FOX, K1])

    def test_after_can_have_many_facts(self):
        many = [("kind", (f"k{place:02}",)) for place in range(60)]
        self.assertEqual(after(SCHEMA, [CAT, DOG], ([], many)), [CAT, DOG] + many)

    def test_inverse(self):
        self.assertEqual(pure(self, inverse, ([CAT], [FOX, K1])), ([FOX, K1], [CAT]))
        self.assertEqual(inverse(([], [])), ([], []))

    def test_compose(self):
        base = [CAT, DOG, K1]
        first = ([DOG], [FOX, K2])
        second = ([CAT, FOX], [DOG, H1])
        self.assertEqual(pure(self, compose, SCHEMA, base, first, second), ([CAT], [K2, H1]))
        self.assertEqual(compose(SCHEMA, base, first, inverse(first)), ([], []))
        self.assertEqual(compose(SCHEMA, base, ([], []), first), first)
        self.assertEqual(compose(SCHEMA, base, first, ([], [])), first)

    def test_difference(self):
        self.assertEqual(pure(self, difference, SCHEMA, [CAT, DOG, K1], [CAT, FOX, K2]), ([DOG, K1], [FOX, K2]))
        self.assertEqual(difference(SCHEMA, [], [CAT, K1]), ([], [CAT, K1]))
        self.assertEqual(difference(SCHEMA, [CAT, K1], []), ([CAT, K1], []))
        self.assertEqual(pure(self, difference, SCHEMA, [CAT], [CAT]), ([], []))

    def test_made_data(self):
        for seed in range(150):
            maker = Maker(seed)
            schema = maker.schema()
            words = ["a", "b", "c"]
            base = maker.facts(schema, words, 8)
            first = maker.change(schema, base, words, 5)
            middle = after(schema, base, first)
            second = maker.change(schema, middle, words, 5)
            end = after(schema, middle, second)
            self.assertIsNone(check_facts(schema, middle))
            self.assertEqual(set(middle), set(base) - set(first[0]) | set(first[1]))
            self.assertEqual(after(schema, middle, inverse(first)), base)
            self.assertEqual(difference(schema, base, middle), first)
            both = compose(schema, base, first, second)
            self.assertIsNone(check_change(schema, base, both))
            self.assertEqual(after(schema, base, both), end)
            pairs = itertools.combinations(base, 2)
            self.assertEqual(keys_hold(schema, base), not any(same_key(schema, *pair) for pair in pairs))


class Interface(unittest.TestCase):
    def test_the_functions_are_defined_in_this_file(self):
        for function in [is_word, check_schema, check_facts, check_database, check_change, ascending, rows_of, words_of,
                         keys_hold, same_key, after, inverse, compose, difference]:
            self.assertEqual(function.__module__, tables.__name__)

    def test_the_names_of_the_arguments(self):
        self.assertTrue(is_word(value="a"))
        self.assertIsNone(check_schema(schema=SCHEMA))
        self.assertIsNone(check_facts(schema=SCHEMA, facts=[]))
        self.assertIsNone(check_database(schema=SCHEMA, database=[]))
        self.assertIsNone(check_change(schema=SCHEMA, database=[], change=([], [])))
        self.assertEqual(ascending(schema=SCHEMA, facts=[]), [])
        self.assertEqual(rows_of(database=[], name="pet"), [])
        self.assertTrue(keys_hold(schema=SCHEMA, facts=[]))
        self.assertTrue(same_key(schema=SCHEMA, first=CAT, second=CAT))
        self.assertEqual(after(schema=SCHEMA, database=[], change=([], [])), [])
        self.assertEqual(inverse(change=([], [])), ([], []))
        self.assertEqual(compose(schema=SCHEMA, database=[], first=([], []), second=([], [])), ([], []))
        self.assertEqual(difference(schema=SCHEMA, database=[], other=[]), ([], []))
        self.assertEqual(words_of(facts=[]), [])
