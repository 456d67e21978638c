import copy
import unittest

from helpers import X, Y, Z, Maker, made_task, spoil
from wishshown import desk as desk_file
from wishshown import errors
from wishshown.desk import Desk, replay
from wishshown.errors import (
    AlreadyThere, BadDeed, BadEntry, BadMay, BadRow, BadSize, BadWidth, CannotBeDone, ClashingEdits, KeyBroken,
    NotAscending, NothingToRedo, NothingToUndo, NotThere, UnknownTable, UnknownView, ViewError,
)
from wishshown.searching import solve
from wishshown.tables import after, inverse, keys_hold
from wishshown.views import view_rows
from wishshown.wishes import does, wish_of

SCHEMA = [("emp", 2, 1), ("boss", 2, None)]
ANN, BEA, XC, YD = ("emp", ("ann", "x")), ("emp", ("bea", "y")), ("boss", ("x", "cy")), ("boss", ("y", "di"))
FACTS = [ANN, BEA, XC, YD]
CHIEFS = (2, [((X, Z), [("emp", (X, Y)), ("boss", (Y, Z))], [])])
STAFF = (1, [((X,), [("emp", (X, Y))], [])])
VIEWS = [CHIEFS, STAFF]
ALL, NONE = (True, True), (False, False)
OFF, ON = [(0, "remove", ("ann", "cy"))], [(0, "add", ("ann", "di")), (0, "remove", ("ann", "cy"))]
BOTH_OFF = [(1, "remove", ("ann",)), (0, "remove", ("ann", "cy")), (1, "remove", ("bea",)), (0, "remove", ("bea", "di"))]
# Both can be done in one way only: ann gets the place of bea.
MOVE = ([ANN], [("emp", ("ann", "y"))])
UNDONE, REDONE = ("undo",), ("redo",)
EMPTY = ([], [])


def made(may=(ALL, NONE), facts=FACTS, views=VIEWS):
    return Desk(SCHEMA, list(facts), list(views), may=list(may))


def told(desk, views=VIEWS):
    """All that can be seen of a desk."""
    rows = [desk.rows(place) for place in range(len(views))]
    return (desk.database, rows, desk.can_undo, desk.can_redo, desk.journal(), len(desk), list(desk))


def future(desk):
    """All that undoing and redoing show of a desk: its databases, from the first to the last one."""
    found = []
    while desk.can_undo:
        desk.undo()
    found.append(desk.database)
    while desk.can_redo:
        desk.redo()
        found.append(desk.database)
    return found


class Case(unittest.TestCase):
    def check_refused(self, desk, error, deed, views=VIEWS):
        """Check that the deed raises exactly this error and leaves the desk as it was; return the error."""
        before = told(desk, views)
        with self.assertRaises(error) as caught:
            deed(desk)
        self.assertIs(type(caught.exception), error)
        self.assertEqual(told(desk, views), before)
        return caught.exception


class Making(Case):
    def test_a_new_desk(self):
        desk = made()
        self.assertEqual(told(desk), (FACTS, [[("ann", "cy"), ("bea", "di")], [("ann",), ("bea",)]], False, False, [],
                                      4, FACTS))
        self.assertIs(desk.can_undo, False)
        self.assertIs(desk.can_redo, False)

    def test_an_empty_database(self):
        desk = made(facts=[])
        self.assertEqual(told(desk), ([], [[], []], False, False, [], 0, []))

    def test_wrong_arguments_in_the_order_of_the_interface(self):
        bad = {"schema": ([("emp", 5, None)], BadWidth), "database": ([BEA, ANN], NotAscending),
               "views": ([CHIEFS] * 5, BadSize), "may": ([ALL], BadMay)}
        good = {"schema": SCHEMA, "database": FACTS, "views": VIEWS, "may": [ALL, NONE]}
        order = ["schema", "database", "views", "may"]
        for count, name in enumerate(order):
            for later in [[], order[count + 1:]]:
                args = {**good, **{each: bad[each][0] for each in [name, *later]}}
                for call in [lambda args=args: Desk(args["schema"], args["database"], args["views"], may=args["may"]),
                             lambda args=args: replay(args["schema"], args["database"], args["views"], [UNDONE],
                                                      may=args["may"])]:
                    with self.assertRaises(bad[name][1]) as caught:
                        call()
                    self.assertIs(type(caught.exception), bad[name][1])

    def test_each_check_of_the_arguments(self):
        for schema, error in [([], BadSize), ([("emp", 2, 3)], errors.BadKey), ([("Emp", 2, 1)], errors.BadName)]:
            self.assertRaises(error, Desk, schema, [], VIEWS, may=[ALL])
        many = [("emp", (f"n{place:02}", "x")) for place in range(25)]
        for facts, error in [(many, BadSize), ([("tag", ("a",))], UnknownTable), ([("emp", ("a",))], BadRow),
                             ([ANN, ("emp", ("ann", "y"))], KeyBroken)]:
            self.assertRaises(error, Desk, SCHEMA, facts, VIEWS, may=[ALL, ALL])
        for views, error in [([], BadSize), ([(0, CHIEFS[1])], BadWidth),
                             ([(1, [((Z,), [("emp", (X, Y))], [])])], errors.UnboundVariable)]:
            self.assertRaises(error, Desk, SCHEMA, FACTS, views, may=[ALL, ALL])
        for may in [[], [ALL], [ALL] * 3, [ALL, (True,)], [ALL, (True, 1)], [ALL, None], [ALL, [True, True]]]:
            self.assertRaises(BadMay, Desk, SCHEMA, FACTS, VIEWS, may=may)

    def test_24_facts(self):
        facts = [("emp", (f"n{place:02}", "x")) for place in range(24)]
        self.assertEqual(len(made(facts=facts)), 24)


class Looking(Case):
    def test_rows(self):
        desk = made()
        self.assertEqual(desk.rows(0), [("ann", "cy"), ("bea", "di")])
        self.assertEqual(desk.rows(1), [("ann",), ("bea",)])
        for place in [-1, 2, 7]:
            self.check_refused(desk, UnknownView, lambda each, place=place: each.rows(place))
        desk.edit(OFF)
        self.assertEqual(desk.rows(0), [("bea", "di")])

    def test_facts(self):
        desk = made()
        self.assertEqual(len(desk), 4)
        self.assertIs(ANN in desk, True)
        self.assertIs(("emp", ("ann", "y")) in desk, False)
        self.assertIs(("tag", ("ann",)) in desk, False)
        self.assertEqual([fact for fact in desk], FACTS)
        self.assertEqual(list(desk), FACTS)
        self.assertEqual(sorted(desk), sorted(FACTS))
        desk.put(([BEA], [("boss", ("x", "a"))]))
        self.assertEqual(list(desk), [ANN, ("boss", ("x", "a")), XC, YD])
        self.assertEqual(desk.database, list(desk))
        self.assertIs(BEA in desk, False)
        self.assertEqual(len(desk), 4)

    def test_a_loop_goes_over_the_facts_as_they_were(self):
        desk = made()
        seen = []
        for fact in desk:
            desk.put(([fact], []))
            seen.append(fact)
        self.assertEqual((seen, list(desk)), (FACTS, []))

    def test_what_is_returned_can_be_changed(self):
        desk = made()
        desk.edit(OFF)
        desk.put(EMPTY)
        desk.undo()
        before = copy.deepcopy(told(desk))
        for look in [lambda: desk.database, lambda: desk.rows(0), lambda: desk.rows(1), desk.journal]:
            spoil(look())
            self.assertEqual(told(desk), before)

    def test_the_properties_cannot_be_assigned(self):
        desk = made()
        for name in ["database", "can_undo", "can_redo"]:
            self.assertRaises(AttributeError, setattr, desk, name, [])


class Editing(Case):
    def test_an_edit(self):
        desk = made()
        change = desk.edit(ON)
        self.assertEqual(change, MOVE)
        self.assertEqual(desk.database, after(SCHEMA, FACTS, MOVE))
        self.assertEqual(desk.journal(), [("edit", ON, MOVE)])
        self.assertEqual((desk.can_undo, desk.can_redo), (True, False))

    def test_the_least_number_of_facts(self):
        for seed in range(120):
            schema, facts, views, (edits, may) = task = made_task(seed)
            if len(edits) <= 6:
                desk = Desk(schema, facts, views, may=may)
                best = solve(task)
                if best is None:
                    self.check_refused(desk, CannotBeDone, lambda each, edits=edits: each.edit(edits), views)
                else:
                    change = desk.edit(edits)
                    self.assertTrue(does(task, change))
                    self.assertEqual(len(change[0] + change[1]), len(best[0] + best[1]))
                    self.assertEqual(desk.database, after(schema, facts, change))
                    self.assertEqual(desk.journal(), [("edit", edits, change)])

    def test_no_edits_and_edits_that_ask_for_nothing(self):
        desk = made()
        for edits in [[], [(1, "add", ("ann",))], [(0, "remove", ("q", "q"))]]:
            self.assertEqual(desk.edit(edits), EMPTY)
            self.assertEqual(desk.database, FACTS)
        self.assertEqual(len(desk.journal()), 3)
        self.assertIs(desk.can_undo, True)

    def test_errors_of_the_edits(self):
        desk = made()
        desk.edit(OFF)
        desk.undo()
        add = (0, "add", ("ann", "cy"))
        for edits, error in [([add] * 7, BadSize), ([(2, "add", ("a",))], UnknownView),
                             ([(-1, "add", ("a",))], UnknownView), ([(0, "put", ("a", "b"))], BadDeed),
                             ([(0, "add", ("a",))], BadRow), ([(0, "add", ("a", "B"))], BadRow),
                             ([add, (0, "remove", ("ann", "cy"))], ClashingEdits),
                             ([(2, "put", ("a",))], UnknownView), ([(0, "put", ("a",))], BadDeed)]:
            self.check_refused(desk, error, lambda each, edits=edits: each.edit(edits))

    def test_an_edit_that_cannot_be_done(self):
        desk = made()
        desk.edit(OFF)
        desk.undo()
        for edits in [[(1, "remove", ("ann",))], [(0, "add", ("ann", "di"))], [(0, "add", ("ann", "ed"))]]:
            self.check_refused(desk, CannotBeDone, lambda each, edits=edits: each.edit(edits))
        none = made(may=[NONE, NONE])
        self.check_refused(none, CannotBeDone, lambda each: each.edit(OFF))

    def test_too_many_facts_after_an_edit(self):
        facts = [("emp", (f"n{place:02}", "x")) for place in range(24)]
        desk = made(facts=facts, views=[STAFF])
        desk.put((facts[:1], []))
        desk.undo()
        add = [(0, "add", ("new",))]
        self.check_refused(desk, BadSize, lambda each: each.edit(add), [STAFF])
        desk.edit([(0, "remove", ("n00",))])
        self.assertEqual(desk.edit(add), ([], [("emp", ("new", "a0"))]))
        self.assertEqual(len(desk), 24)

    def test_what_was_handed_in_can_be_changed(self):
        schema, facts, may = list(SCHEMA), list(FACTS), [ALL, NONE]
        views = [(2, [((X, Z), [("emp", (X, Y)), ("boss", (Y, Z))], [])]), STAFF]
        desk = Desk(schema, facts, views, may=may)
        before = copy.deepcopy(told(desk))
        args = copy.deepcopy((schema, facts, views, may))
        edits = list(ON)
        change = desk.edit(edits)
        self.assertEqual((edits, (schema, facts, views, may)), (ON, args))
        spoil(edits)
        spoil(change)
        schema.clear()
        facts.clear()
        may.clear()
        views[0][1][0][1].clear()
        views[0][1][0][2].append("spoiled")
        views[0][1].clear()
        views.clear()
        self.assertEqual(desk.journal(), [("edit", ON, MOVE)])
        self.assertEqual(desk.undo(), inverse(MOVE))
        self.assertEqual(told(desk)[:2], before[:2])
        self.assertEqual(desk.edit(OFF)[0], [ANN])

    def test_what_was_handed_in_can_be_changed_at_once(self):
        args = copy.deepcopy([SCHEMA, FACTS, VIEWS, [ALL, NONE]])
        desk = Desk(args[0], args[1], args[2], may=args[3])
        journal = [("edit", list(ON), copy.deepcopy(MOVE)), ("change", ([], [("boss", ("z", "ed"))])), UNDONE]
        more = copy.deepcopy([SCHEMA, FACTS, VIEWS, [ALL, NONE]])
        other = replay(more[0], more[1], more[2], journal, may=more[3])
        spoil(args)
        spoil(more)
        spoil(journal)
        self.assertEqual(told(desk), told(made()))
        self.assertEqual(desk.edit(ON), MOVE)
        desk.put(([], [("boss", ("z", "ed"))]))
        desk.undo()
        self.assertEqual(told(other), told(desk))
        self.assertEqual(future(other), future(desk))

    def test_an_error_changes_no_argument(self):
        desk = made()
        edits = [(1, "remove", ("ann",))]
        self.check_refused(desk, CannotBeDone, lambda each: each.edit(edits))
        self.assertEqual(edits, [(1, "remove", ("ann",))])


class EditingAll(Case):
    def test_one_after_another(self):
        desk = made()
        changes = desk.edit_all([OFF, [(0, "add", ("ann", "di"))], []])
        self.assertEqual(len(changes), 3)
        database = FACTS
        for change in changes:
            database = after(SCHEMA, database, change)
        self.assertEqual(desk.database, database)
        self.assertEqual([entry[:2] for entry in desk.journal()],
                         [("edit", OFF), ("edit", [(0, "add", ("ann", "di"))]), ("edit", [])])
        self.assertEqual([entry[2] for entry in desk.journal()], changes)
        self.assertEqual(desk.undo(), EMPTY)
        self.assertEqual(desk.undo(), inverse(changes[1]))
        self.assertEqual(desk.database, after(SCHEMA, FACTS, changes[0]))
        self.assertEqual(desk.redo(), changes[1])
        self.assertEqual(desk.redo(), EMPTY)
        self.assertEqual(desk.database, database)

    def test_no_lists(self):
        desk = made()
        desk.edit(OFF)
        desk.undo()
        before = told(desk)
        self.assertEqual(desk.edit_all([]), [])
        self.assertEqual(told(desk), before)
        self.assertIs(desk.can_redo, True)

    def test_the_first_or_a_later_one_is_refused(self):
        bad = [([(0, "add", ("q", "ed"))], CannotBeDone), ([(0, "add", ("a",))], BadRow), ([OFF[0]] * 7, BadSize),
               ([(5, "add", ("a",))], UnknownView), ([OFF[0], (0, "add", ("ann", "cy"))], ClashingEdits)]
        for edits, error in bad:
            for lists in [[edits], [edits, OFF], [OFF, edits], [OFF, [], ON[:1], edits, []]]:
                desk = made()
                desk.put(([], [("boss", ("z", "al"))]))
                desk.edit([])
                desk.undo()
                args = copy.deepcopy(lists)
                self.check_refused(desk, error, lambda each, lists=lists: each.edit_all(lists))
                self.assertEqual(lists, args)
                self.assertEqual(desk.redo(), EMPTY)
                desk.undo()
                self.assertEqual(desk.undo(), ([("boss", ("z", "al"))], []))
                self.assertEqual(desk.database, FACTS)

    def test_each_stands_on_what_the_one_before_it_left(self):
        desk = made()
        # Without the first list the second one cannot be done: ann has one place.
        self.check_refused(desk, CannotBeDone, lambda each: each.edit([(0, "add", ("ann", "di"))]))
        self.assertEqual(len(desk.edit_all([OFF, [(0, "add", ("ann", "di"))]])), 2)

    def test_what_is_returned_can_be_changed(self):
        desk = made()
        changes = desk.edit_all([ON, []])
        before = copy.deepcopy(told(desk))
        spoil(changes)
        self.assertEqual(told(desk), before)
        self.assertEqual(desk.undo(), EMPTY)
        self.assertEqual(desk.undo(), inverse(MOVE))


class Putting(Case):
    def test_a_change(self):
        desk = made(may=[NONE, NONE])
        self.assertIsNone(desk.put(MOVE))
        self.assertEqual(desk.database, after(SCHEMA, FACTS, MOVE))
        self.assertEqual(desk.journal(), [("change", MOVE)])
        self.assertEqual((desk.can_undo, desk.can_redo), (True, False))
        self.assertIsNone(desk.put(EMPTY))
        self.assertEqual(desk.journal(), [("change", MOVE), ("change", EMPTY)])

    def test_errors(self):
        desk = made()
        desk.edit(OFF)
        desk.undo()
        new = ("emp", ("cat", "x"))
        for change, error in [(([("tag", ("a",))], []), UnknownTable), (([], [("emp", ("a",))]), BadRow),
                              (([], [("emp", ("a", "B"))]), BadRow), (([BEA, ANN], []), NotAscending),
                              (([], [new, new]), NotAscending), (([("emp", ("bea",))], [new, new]), BadRow)]:
            self.check_refused(desk, error, lambda each, change=change: each.put(change))
        error = self.check_refused(desk, NotThere, lambda each: each.put(([new], [ANN])))
        self.assertEqual(error.fact, new)
        error = self.check_refused(desk, AlreadyThere, lambda each: each.put(([BEA], [ANN, new])))
        self.assertEqual(error.fact, ANN)
        twin = ("emp", ("ann", "w"))
        error = self.check_refused(desk, KeyBroken, lambda each: each.put(([], [twin])))
        self.assertEqual((error.first, error.second), (twin, ANN))

    def test_the_number_of_facts_comes_ahead_of_the_keys(self):
        desk = made()
        many = [("emp", (f"n{place:02}", "x")) for place in range(20)]
        desk.put(([], many))
        self.assertEqual(len(desk), 24)
        self.check_refused(desk, BadSize, lambda each: each.put(([], [("boss", ("a", "b"))])))
        self.check_refused(desk, BadSize, lambda each: each.put(([], [("emp", ("ann", "w"))])))
        self.check_refused(desk, NotThere, lambda each: each.put(([("emp", ("q", "q"))], [("emp", ("ann", "w"))])))
        error = self.check_refused(desk, KeyBroken, lambda each: each.put(([BEA], [("emp", ("ann", "z"))])))
        self.assertEqual((error.first, error.second), (ANN, ("emp", ("ann", "z"))))
        desk.put(([ANN], [("emp", ("ann", "w"))]))
        self.assertEqual(len(desk), 24)

    def test_what_was_handed_in_can_be_changed(self):
        desk = made()
        change = ([ANN], [("emp", ("ann", "y"))])
        desk.put(change)
        self.assertEqual(change, MOVE)
        spoil(change)
        self.assertEqual(desk.journal(), [("change", MOVE)])
        self.assertEqual(desk.undo(), inverse(MOVE))
        self.assertEqual(desk.redo(), MOVE)


class Undoing(Case):
    def test_nothing_to_undo_or_redo(self):
        desk = made()
        self.check_refused(desk, NothingToUndo, lambda each: each.undo())
        self.check_refused(desk, NothingToRedo, lambda each: each.redo())
        desk.put(MOVE)
        self.check_refused(desk, NothingToRedo, lambda each: each.redo())
        desk.undo()
        self.check_refused(desk, NothingToUndo, lambda each: each.undo())
        desk.redo()
        self.check_refused(desk, NothingToRedo, lambda each: each.redo())

    def test_back_and_forth(self):
        desk = made()
        one, two = ([], [("boss", ("z", "ed"))]), ([XC], [])
        desk.put(one)
        desk.put(two)
        desk.edit([])
        self.assertEqual(desk.undo(), EMPTY)
        self.assertEqual(desk.undo(), inverse(two))
        self.assertEqual(desk.undo(), inverse(one))
        self.assertEqual(desk.database, FACTS)
        self.assertEqual(desk.redo(), one)
        self.assertEqual(desk.redo(), two)
        self.assertEqual((desk.can_undo, desk.can_redo), (True, True))
        self.assertEqual(desk.redo(), EMPTY)
        self.assertEqual(desk.database, [ANN, BEA, YD, ("boss", ("z", "ed"))])
        self.assertEqual(desk.journal(), [("change", one), ("change", two), ("edit", [], EMPTY)] + [UNDONE] * 3 + [
            REDONE] * 3)

    def test_a_deed_takes_away_what_could_be_redone(self):
        for deed in [lambda desk: desk.edit([]), lambda desk: desk.put(EMPTY), lambda desk: desk.edit_all([[]]),
                     lambda desk: desk.put(([XC], []))]:
            desk = made()
            desk.put(MOVE)
            desk.undo()
            self.assertIs(desk.can_redo, True)
            deed(desk)
            self.assertIs(desk.can_redo, False)
            self.check_refused(desk, NothingToRedo, lambda each: each.redo())
            desk.undo()
            self.assertEqual(desk.database, FACTS)
            self.check_refused(desk, NothingToUndo, lambda each: each.undo())

    def test_a_refused_deed_does_not(self):
        desk = made()
        desk.put(MOVE)
        desk.undo()
        self.check_refused(desk, CannotBeDone, lambda each: each.edit([(1, "remove", ("ann",))]))
        self.check_refused(desk, NotThere, lambda each: each.put(([("emp", ("q", "q"))], [])))
        self.assertEqual(desk.redo(), MOVE)

    def test_what_is_returned_can_be_changed(self):
        desk = made()
        desk.put(MOVE)
        spoil(desk.undo())
        spoil(desk.redo())
        spoil(desk.undo())
        self.assertEqual(desk.redo(), MOVE)
        self.assertEqual(desk.journal(), [("change", MOVE), UNDONE, REDONE, UNDONE, REDONE])


class Replaying(Case):
    def replayed(self, journal, may=(ALL, NONE)):
        return replay(SCHEMA, list(FACTS), list(VIEWS), journal, may=list(may))

    def check_wrong(self, entry):
        """Check that the entry is wrong at the first and at a later place."""
        for before in [[], [("edit", [], EMPTY)], [("change", MOVE), UNDONE, ("edit", OFF, ([ANN], [(
                "emp", ("ann", "a0"))])), UNDONE, REDONE, UNDONE]]:
            for behind in [[], [entry], [("change", EMPTY)]]:
                with self.assertRaises(BadEntry) as caught:
                    self.replayed(before + [entry] + behind)
                self.assertIs(type(caught.exception), BadEntry)
                self.assertEqual(caught.exception.place, len(before))

    def test_all_kinds_of_entries(self):
        desk = made()
        desk.edit(ON)
        desk.put(([], [("boss", ("z", "ed"))]))
        desk.undo()
        desk.undo()
        desk.redo()
        desk.edit([])
        desk.put(([XC], []))
        desk.undo()
        journal = desk.journal()
        self.assertEqual({entry[0] for entry in journal}, {"edit", "change", "undo", "redo"})
        args = copy.deepcopy((SCHEMA, FACTS, VIEWS, journal))
        other = replay(SCHEMA, FACTS, VIEWS, journal, may=[ALL, NONE])
        self.assertEqual((SCHEMA, FACTS, VIEWS, journal), args)
        self.assertIsInstance(other, Desk)
        self.assertEqual(told(other), told(desk))
        self.assertEqual(future(other), future(desk))
        spoil(journal)
        self.assertEqual(told(other), told(desk))

    def test_an_empty_journal(self):
        self.assertEqual(told(self.replayed([])), told(made()))

    def test_an_edit_whose_change_is_not_that_of_the_desk(self):
        # The change has to be one with the least number of facts, whichever one it is.
        for place in ["q", "a0", "cy", "zz"]:
            change = ([ANN], [("emp", ("ann", place))])
            desk = self.replayed([("edit", OFF, change)])
            self.assertEqual(desk.database, after(SCHEMA, FACTS, change))
            self.assertEqual(desk.journal(), [("edit", OFF, change)])
            self.assertEqual(desk.undo(), inverse(change))

    def test_wrong_edits(self):
        for edits, change in [
            ([OFF[0]] * 7, MOVE), ([(2, "add", ("a",))], EMPTY), ([(0, "put", ("a", "b"))], EMPTY),
            ([(0, "add", ("a",))], EMPTY), ([(0, "add", ("a", "B"))], EMPTY),
            ([OFF[0], (0, "add", ("ann", "cy"))], EMPTY),
            # What check_change raises.
            (ON, ([ANN], [("emp", ("ann", "y")), ("emp", ("ann", "y"))])), (ON, ([], [("emp", ("ann", "y", "z"))])),
            (ON, ([("tag", ("ann",))], [])), (ON, ([("emp", ("ann", "z"))], [("emp", ("ann", "y"))])),
            (ON, ([ANN], [("emp", ("ann", "y")), BEA])), (OFF, ([BEA, ANN], [])),
            # The change does not do the wish.
            (ON, EMPTY), (ON, ([ANN], [])), (ON, ([ANN], [("emp", ("ann", "z"))])), ([], MOVE),
            (OFF, ([XC], [])), (ON, ([], [("emp", ("ann", "y"))])),
            # It does the wish, but its facts are not in order.
            (BOTH_OFF, ([BEA, ANN], [])),
            # A change with fewer facts does it.
            ([], ([ANN], [("emp", ("ann", "x")), ("emp", ("q", "q"))])),
            (OFF, ([ANN, BEA], [("emp", ("ann", "q")), ("emp", ("bea", "q"))])),
        ]:
            self.check_wrong(("edit", edits, change))

    def test_an_edit_with_several_facts(self):
        desk = self.replayed([("edit", BOTH_OFF, ([ANN, BEA], []))])
        self.assertEqual(desk.database, [XC, YD])

    def test_a_change_that_is_not_the_least_one(self):
        views = [CHIEFS]
        facts = [("boss", ("x", "cy")), ("boss", ("y", "cy"))]
        edits = [(0, "add", ("ann", "cy"))]
        least = ([], [("emp", ("ann", "x"))])
        more = ([], [("emp", ("ann", "x")), ("boss", ("w", "ed"))])
        self.assertTrue(does((SCHEMA, facts, views, (edits, [ALL, ALL])), more))
        desk = replay(SCHEMA, facts, views, [("edit", edits, least)], may=[ALL, ALL])
        self.assertEqual(desk.rows(0), [("ann", "cy")])
        for journal, place in [([("edit", edits, more)], 0), ([("edit", edits, least), ("edit", [], ([], [
                ("boss", ("w", "ed"))]))], 1)]:
            with self.assertRaises(BadEntry) as caught:
                replay(SCHEMA, facts, views, journal, may=[ALL, ALL])
            self.assertEqual(caught.exception.place, place)

    def test_an_edit_that_the_may_of_the_desk_bars(self):
        desk = self.replayed([("edit", ON, MOVE)])
        self.assertEqual(desk.rows(0), [("ann", "di"), ("bea", "di")])
        for may in [(NONE, NONE), ((True, False), ALL), ((False, True), ALL)]:
            with self.assertRaises(BadEntry):
                self.replayed([("edit", ON, MOVE)], may)

    def test_too_many_facts(self):
        facts = [("emp", (f"n{place:02}", "x")) for place in range(24)]
        new = ([], [("emp", ("new", "q"))])
        for journal, place in [([("edit", [(0, "add", ("new",))], new)], 0), ([("change", new)], 0),
                               ([("change", EMPTY), ("change", new)], 1)]:
            with self.assertRaises(BadEntry) as caught:
                replay(SCHEMA, facts, [STAFF], journal, may=[ALL, ALL])
            self.assertEqual(caught.exception.place, place)
        desk = replay(SCHEMA, facts[:23], [STAFF], [("edit", [(0, "add", ("new",))], new)], may=[ALL, ALL])
        self.assertEqual(len(desk), 24)

    def test_wrong_changes(self):
        new = ("emp", ("cat", "x"))
        many = [("emp", (f"n{place:02}", "x")) for place in range(21)]
        for change in [([("tag", ("a",))], []), ([], [("tag", ("a",))]), ([], [("emp", ("a",))]),
                       ([], [("emp", ("a", "B"))]), ([], [("emp", ("", "b"))]), ([BEA, ANN], []), ([], [new, new]),
                       ([YD, ANN], []), ([new], []), ([], [ANN]), ([ANN], [BEA]), ([], many),
                       ([], [("emp", ("ann", "w"))]), ([], [new, ("emp", ("cat", "y"))]),
                       ([], [("EMP", ("a", "b"))]), ([], [("", ())])]:
            self.check_wrong(("change", change))

    def test_nothing_to_undo_or_redo(self):
        for journal, place in [([UNDONE], 0), ([REDONE], 0), ([("change", EMPTY), REDONE], 1),
                               ([("change", EMPTY), UNDONE, UNDONE], 2),
                               ([("change", EMPTY), UNDONE, REDONE, REDONE], 3),
                               ([("change", EMPTY), UNDONE, ("edit", [], EMPTY), REDONE], 3)]:
            with self.assertRaises(BadEntry) as caught:
                self.replayed(journal)
            self.assertEqual(caught.exception.place, place)

    def test_the_first_wrong_entry_counts(self):
        with self.assertRaises(BadEntry) as caught:
            self.replayed([("change", MOVE), ("change", ([ANN], [])), UNDONE, REDONE, REDONE])
        self.assertEqual(caught.exception.place, 1)

    def test_errors_of_the_desk_come_first(self):
        self.assertRaises(BadMay, replay, SCHEMA, FACTS, VIEWS, [REDONE], may=[])
        self.assertRaises(NotAscending, replay, SCHEMA, FACTS[::-1], VIEWS, [REDONE], may=[])

    def test_made_stories(self):
        kinds = {}
        for seed in range(80):
            schema, facts, views, (_, may) = made_task(seed)
            maker = Maker(seed)
            desk = Desk(schema, facts, views, may=may)
            for _ in range(12):
                self.do_something(desk, schema, views, may, maker)
            other = replay(schema, facts, views, desk.journal(), may=may)
            self.assertEqual(told(other, views), told(desk, views))
            for entry in desk.journal():
                kinds[entry[0]] = kinds.get(entry[0], 0) + 1
            self.assertEqual(future(other), future(desk))
            self.assertEqual(told(other, views), told(desk, views))
            self.assertEqual(other.database, future(desk)[-1])
        self.assertTrue(all(kinds[kind] > 30 for kind in ["edit", "change", "undo", "redo"]), kinds)

    def do_something(self, desk, schema, views, may, maker):
        """Do any deed; if it is refused, check that the desk is as it was."""
        chance = maker.random
        change = maker.change(schema, desk.database, ["a", "b"], 2)
        edits, _ = wish_of(schema, desk.database, views, change, may=may)
        before = told(desk, views)
        try:
            deed = chance.choice(["edit", "edit", "all", "put", "undo", "undo", "redo"])
            if deed == "edit":
                desk.edit(edits[:6])
            elif deed == "all":
                desk.edit_all([edits[:1], edits[:2], []])
            elif deed == "put":
                desk.put(change)
            elif deed == "undo":
                desk.undo()
            else:
                desk.redo()
        except ViewError:
            self.assertEqual(told(desk, views), before)
        else:
            self.assertGreater(len(desk.journal()), len(before[4]))
            self.assertTrue(keys_hold(schema, desk.database))
            self.assertEqual(desk.rows(0), view_rows(desk.database, views[0]))


class Interface(unittest.TestCase):
    def test_they_are_defined_in_this_file(self):
        for each in [Desk, replay]:
            self.assertEqual(each.__module__, desk_file.__name__)
        for name in ["edit", "edit_all", "put", "undo", "redo", "rows", "database", "can_undo", "can_redo", "journal",
                     "__len__", "__contains__", "__iter__"]:
            self.assertIn(name, vars(Desk))
        for name in ["database", "can_undo", "can_redo"]:
            self.assertIsInstance(vars(Desk)[name], property)

    def test_the_names_of_the_arguments(self):
        desk = Desk(schema=SCHEMA, database=FACTS, views=VIEWS, may=[ALL, ALL])
        self.assertEqual(desk.edit(edits=[]), EMPTY)
        self.assertEqual(desk.edit_all(lists=[]), [])
        self.assertIsNone(desk.put(change=EMPTY))
        self.assertEqual(desk.rows(place=1), [("ann",), ("bea",)])
        other = replay(schema=SCHEMA, database=FACTS, views=VIEWS, journal=desk.journal(), may=[ALL, ALL])
        self.assertEqual(told(other), told(desk))
        self.assertRaises(TypeError, lambda: Desk(SCHEMA, FACTS, VIEWS, [ALL, ALL]))
        self.assertRaises(TypeError, lambda: replay(SCHEMA, FACTS, VIEWS, [], [ALL, ALL]))
