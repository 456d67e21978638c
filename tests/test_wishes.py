import unittest

from helpers import Maker, X, Y, Z, all_facts, plain_view_rows, pure
from wishshown import wishes
from wishshown.errors import (
    BadDeed, BadKey, BadMay, BadRow, BadSize, BadTerm, BadWidth, ClashingEdits, KeyBroken, UnknownView, ViewError,
)
from wishshown.tables import after, keys_hold
from wishshown.views import effect
from wishshown.wishes import check_task, check_wish, does, faults, wanted, wish_of

# The tables stand in falling order of their names.
SCHEMA = [("emp", 2, 1), ("boss", 2, None)]
ANN, BEA = ("emp", ("ann", "x")), ("emp", ("bea", "y"))
XC, YC = ("boss", ("x", "cy")), ("boss", ("y", "cy"))
FACTS = [ANN, BEA, XC, YC]
VIEWS = [(2, [((X, Z), [("emp", (X, Y)), ("boss", (Y, Z))], [])]), (1, [((Y,), [("emp", (X, Y))], [])])]
ALL = [(True, True), (True, True)]
NONE = [(False, False), (False, False)]


def task(edits, may=ALL, facts=FACTS):
    return (SCHEMA, facts, VIEWS, (edits, may))


class CheckWish(unittest.TestCase):
    def right(self, edits, may=ALL):
        self.assertIsNone(pure(self, check_wish, SCHEMA, VIEWS, (edits, may)))

    def bad(self, error, edits, may=ALL):
        with self.assertRaises(error):
            check_wish(SCHEMA, VIEWS, (edits, may))

    def test_right_ones(self):
        self.right([])
        self.right([(0, "remove", ("ann", "cy")), (1, "add", ("z",)), (0, "add", ("a", "b"))], NONE)
        self.right([(1, "add", ("z",))] * 6, [(True, False), (False, True)])
        self.right([(1, "add", ("z",)), (1, "remove", ("y",))])
        same = [(1, [((X,), [("emp", (X, Y))], [])])] * 2
        self.assertIsNone(check_wish(SCHEMA, same, ([(0, "add", ("z",)), (1, "remove", ("z",))], ALL)))

    def test_sizes(self):
        self.bad(BadSize, [(1, "add", ("z",))] * 7)
        self.bad(BadSize, [(9, "put", ())] * 7, [])

    def test_places(self):
        for place in [2, -1, True, False, None, "0", 0.0, (0,), [0]]:
            self.bad(UnknownView, [(place, "add", ("z",))])
            self.bad(UnknownView, [(place, "put", ())])
            self.bad(UnknownView, [(1, "add", ("z",)), (place, "add", ("z",))])

    def test_deeds(self):
        for deed in ["", "Add", "delete", "insert", "added", None, True, 0, ["add"], ("add",)]:
            self.bad(BadDeed, [(1, deed, ("z",))])
            self.bad(BadDeed, [(1, deed, ())])

    def test_rows(self):
        for row in [(), ("a",), ("a", "b", "c"), ("a", "B"), ("", "a"), ("a", 1), ("a", None), (("a",), "b"), ("a", [])]:
            self.bad(BadRow, [(0, "add", row)])
            self.bad(BadRow, [(1, "add", ("z",)), (0, "remove", row)])
        self.bad(BadRow, [(1, "add", ("a", "b"))])

    def test_clashing_edits(self):
        self.bad(ClashingEdits, [(1, "add", ("z",)), (1, "remove", ("z",))])
        self.bad(ClashingEdits, [(1, "remove", ("z",)), (0, "add", ("a", "b")), (1, "add", ("z",))])
        self.bad(ClashingEdits, [(0, "add", ("a", "b")), (0, "add", ("a", "b")), (0, "remove", ("a", "b"))])

    def test_may(self):
        for may in [[], [(True, True)], ALL + [(True, True)], [(True, True), (True,)], [(True, True), ()],
                    [(True, True), (True, True, True)], [(True, True), [True, True]], [(1, 0), (True, True)],
                    [(True, 1), (True, True)], [(None, True), (True, True)], [("", True), (True, True)], [True, False],
                    [(True, True), None]]:
            self.bad(BadMay, [], may)
            self.bad(BadMay, [(1, "add", ("z",))], may)

    def test_the_first_error_that_is_due(self):
        clash = [(1, "add", ("z",)), (1, "remove", ("z",))]
        self.bad(ClashingEdits, clash + [(7, "put", ())], [])
        self.bad(UnknownView, [(7, "put", ())] + clash, [])
        self.bad(BadDeed, [(1, "put", ()), (7, "add", ())], [])
        self.bad(BadRow, [(1, "add", ()), (1, "put", ())], [])
        self.bad(BadRow, [(1, "add", ("z",)), (1, "remove", ("z", "z"))], [])
        self.bad(BadSize, clash * 4, [])


class CheckTask(unittest.TestCase):
    def test_right_ones(self):
        self.assertIsNone(pure(self, check_task, task([(0, "remove", ("ann", "cy"))])))
        self.assertIsNone(check_task(task([], facts=[])))

    def test_the_order_of_the_checks(self):
        wrong = [(BadKey, [("emp", 2, 3), SCHEMA[1]]), (KeyBroken, [ANN, ("emp", ("ann", "y"))]),
                 (BadTerm, [(1, [((X,), [("boss", (X, ("var", 8)))], [])])]), (BadDeed, ([(0, "put", ())], ALL))]
        right = list(task([]))
        for place, (error, _) in enumerate(wrong):
            with self.assertRaises(error):
                check_task(tuple(right[:place] + [part for _, part in wrong[place:]]))
            with self.assertRaises(error):
                check_task(tuple(right[:place] + [wrong[place][1]] + right[place + 1:]))

    def test_each_check_is_made(self):
        many = [("boss", (f"b{place:02}", "x")) for place in range(25)]
        for error, part in [(BadSize, ([], FACTS, VIEWS, ([], []))), (BadSize, (SCHEMA, many, VIEWS, ([], ALL))),
                            (BadWidth, (SCHEMA, FACTS, [(0, [])], ([], ALL))),
                            (BadMay, (SCHEMA, FACTS, VIEWS, ([], [])))]:
            with self.assertRaises(error):
                check_task(part)


class Wanted(unittest.TestCase):
    def test_without_edits(self):
        self.assertEqual(pure(self, wanted, task([])), [[("ann", "cy"), ("bea", "cy")], [("x",), ("y",)]])
        self.assertEqual(wanted(task([], facts=[])), [[], []])

    def test_edits(self):
        edits = [(1, "add", ("w",)), (0, "remove", ("ann", "cy")), (1, "remove", ("y",)), (0, "add", ("zoe", "cy"))]
        self.assertEqual(pure(self, wanted, task(edits)), [[("bea", "cy"), ("zoe", "cy")], [("w",), ("x",)]])

    def test_edits_that_ask_for_nothing(self):
        edits = [(0, "add", ("ann", "cy")), (1, "remove", ("z",))]
        self.assertEqual(wanted(task(edits)), wanted(task([])))

    def test_edits_that_stand_twice(self):
        edits = [(1, "add", ("z",)), (1, "remove", ("x",))] * 3
        self.assertEqual(wanted(task(edits)), [[("ann", "cy"), ("bea", "cy")], [("y",), ("z",)]])

    def test_many_edits(self):
        edits = [(1, "add", (f"z{place:02}",)) for place in range(90)]
        self.assertEqual(wanted(task(edits[::-1]))[1], [("x",), ("y",)] + [row for _, _, row in edits])
        self.assertEqual(len(faults(task(edits), ([], []))), 90)


class Faults(unittest.TestCase):
    def test_the_told_order(self):
        may = [(False, False), (False, False)]
        change = ([ANN, XC], [("emp", ("bea", "x")), ("emp", ("bea", "z")), ("boss", ("z", "di"))])
        edits = [(1, "add", ("v",)), (0, "remove", ("bea", "cy")), (1, "remove", ("x",))]
        self.assertEqual(pure(self, faults, task(edits, may), change), [
            ("delete", ANN), ("delete", XC),
            ("insert", ("emp", ("bea", "x"))), ("insert", ("emp", ("bea", "z"))), ("insert", ("boss", ("z", "di"))),
            ("key", ("emp", ("bea", "x")), BEA), ("key", ("emp", ("bea", "x")), ("emp", ("bea", "z"))),
            ("missing", 0, ("ann", "cy")), ("extra", 0, ("bea", "cy")), ("extra", 0, ("bea", "di")),
            ("missing", 1, ("v",)), ("extra", 1, ("x",)), ("extra", 1, ("z",)),
        ])

    def test_deleting_and_inserting_are_allowed_apart(self):
        change = ([BEA, XC], [("emp", ("bea", "z")), ("boss", ("z", "di"))])
        kinds = ["delete", "delete", "insert", "insert"]
        changed = change[0] + change[1]
        for numbers in range(16):
            bits = [bool(numbers & 1 << place) for place in range(4)]
            may = [(bits[0], bits[2]), (bits[1], bits[3])]
            told = [(kinds[place], changed[place]) for place in range(4) if not bits[place]]
            found = faults(task([], may), change)
            self.assertEqual([fault for fault in found if fault[0] in kinds], told)

    def test_none(self):
        self.assertEqual(pure(self, faults, task([]), ([], [])), [])
        self.assertEqual(pure(self, faults, task([(0, "remove", ("ann", "cy"))]), ([XC], [])), [])

    def test_keys_that_do_not_hold(self):
        change = ([], [("emp", ("bea", "x"))])
        self.assertEqual(faults(task([]), change), [("key", ("emp", ("bea", "x")), BEA)])
        self.assertIs(does(task([]), change), False)


class Does(unittest.TestCase):
    def test_changes_that_fit(self):
        edits = [(0, "remove", ("ann", "cy"))]
        for change, told in [(([XC], []), True), (([ANN], []), False), (([], []), False), (([XC, YC], []), False),
                             (([XC], [("boss", ("z", "cy"))]), True)]:
            self.assertIs(pure(self, does, task(edits), change), told)

    def test_the_edits_that_ask_for_nothing_are_done(self):
        self.assertIs(does(task([(0, "add", ("ann", "cy"))]), ([], [])), True)

    def test_what_may_be_deleted_and_inserted(self):
        edits = [(0, "remove", ("ann", "cy"))]
        more = ([XC], [("boss", ("z", "cy"))])
        for may, first, second in [([(True, True), (False, True)], False, False),
                                   ([(False, False), (True, False)], True, False),
                                   ([(False, False), (True, True)], True, True)]:
            self.assertIs(does(task(edits, may), ([XC], [])), first)
            self.assertIs(does(task(edits, may), more), second)

    def test_changes_that_do_not_fit(self):
        other = ("boss", ("q", "cy"))
        for change in [([other], []), ([], [XC]), ([XC], [XC]), ([XC, other], []), ([XC], [YC])]:
            self.assertIs(pure(self, does, task([(0, "remove", ("ann", "cy"))]), change), False)
            self.assertIs(does(task([]), change), False)


class WishOf(unittest.TestCase):
    def test_row_by_row(self):
        change = ([ANN, YC], [("emp", ("abe", "y")), ("emp", ("zoe", "x"))])
        may = [(True, False), (False, True)]
        edits, told = pure(self, wish_of, SCHEMA, FACTS, VIEWS, change, may=may)
        self.assertEqual(edits, [(0, "remove", ("ann", "cy")), (0, "remove", ("bea", "cy")), (0, "add", ("zoe", "cy"))])
        self.assertEqual(told, may)
        edits, _ = wish_of(SCHEMA, FACTS, VIEWS, ([ANN, YC], [("emp", ("abe", "z")), ("boss", ("z", "a"))]), may=may)
        self.assertEqual(edits, [(0, "add", ("abe", "a")), (0, "remove", ("ann", "cy")), (0, "remove", ("bea", "cy")),
                                 (1, "remove", ("x",)), (1, "add", ("z",))])

    def test_no_edits(self):
        self.assertEqual(wish_of(SCHEMA, FACTS, VIEWS, ([], []), may=ALL), ([], ALL))

    def test_more_than_six(self):
        change = ([], [("emp", (f"e{place}", "x")) for place in range(9)])
        edits, _ = wish_of(SCHEMA, FACTS, VIEWS, change, may=ALL)
        self.assertEqual(edits, [(0, "add", (f"e{place}", "cy")) for place in range(9)])
        self.assertIs(does(task(edits), change), True)


class MadeData(unittest.TestCase):
    def test_the_words_of_the_points(self):
        done = 0
        for seed in range(250):
            maker = Maker(seed)
            schema, words = maker.schema(), ["a", "b", "c"]
            facts = maker.holding(schema, words, 8)
            views = [maker.view(schema, words) for _ in range(2)]
            change = maker.change(schema, facts, words, 3)
            end = after(schema, facts, change)
            may = [(maker.random.random() < 0.9, maker.random.random() < 0.9) for _ in schema]
            wish = wish_of(schema, facts, views, change, may=may)
            made = (schema, facts, views, wish)
            effects = [effect(schema, facts, view, change) for view in views]
            asked = [(place, deed, row) for place, (lost, gained) in enumerate(effects)
                     for row, deed in sorted([(row, "remove") for row in lost] + [(row, "add") for row in gained])]
            self.assertEqual(wish, (asked, may))
            self.assertEqual(wanted(made), [plain_view_rows(end, view) for view in views])
            allowed = dict(zip([table[0] for table in schema], may))
            lets = all(allowed[fact[0]][0] for fact in change[0]) and all(allowed[fact[0]][1] for fact in change[1])
            self.assertIs(does(made, change), lets and keys_hold(schema, end))
            done += does(made, change)
            for fact in all_facts(schema, words):
                small = ([fact], []) if fact in facts else ([], [fact])
                self.assertEqual(does(made, small), faults(made, small) == [])
        self.assertGreater(done, 30)

    def test_errors_are_of_the_program(self):
        with self.assertRaises(ViewError):
            check_task(task([(0, "put", ())]))


class Interface(unittest.TestCase):
    def test_the_functions_are_defined_in_this_file(self):
        for function in [check_wish, check_task, wanted, faults, does, wish_of]:
            self.assertEqual(function.__module__, wishes.__name__)

    def test_the_names_of_the_arguments(self):
        self.assertIsNone(check_wish(schema=SCHEMA, views=VIEWS, wish=([], ALL)))
        self.assertIsNone(check_task(task=task([])))
        self.assertEqual(len(wanted(task=task([]))), 2)
        self.assertEqual(faults(task=task([]), change=([], [])), [])
        self.assertTrue(does(task=task([]), change=([], [])))
        self.assertEqual(wish_of(schema=SCHEMA, database=[], views=VIEWS, change=([], []), may=ALL), ([], ALL))
        with self.assertRaises(TypeError):
            wish_of(SCHEMA, [], VIEWS, ([], []), ALL)
