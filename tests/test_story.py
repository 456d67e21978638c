"""A story over the whole program."""

import copy
import unittest

from helpers import made_task
from wishshown.desk import Desk, replay
from wishshown.errors import CannotBeDone
from wishshown.explaining import clash, company, give_up
from wishshown.live import LiveView
from wishshown.prices import cheapest, price_of
from wishshown.reading import read_change, read_database, read_schema, read_views, read_wish
from wishshown.refuting import is_refutation, refute
from wishshown.searching import all_least, solve
from wishshown.tables import after, compose, difference, inverse
from wishshown.views import effect, view_rows
from wishshown.wishes import check_task, does, faults, wanted
from wishshown.writing import write_change, write_facts, write_schema, write_views, write_wish

SCHEMA = "table emp 2 key 1\ntable boss 2\ntable room 2 key 2\n"
DATABASE = """emp ann x
emp bea x
emp dot y
boss x cy
boss y di
room x r1
room y r2
"""
VIEWS = """view 2
rule ?0 ?2 <- emp ?0 ?1 , boss ?1 ?2
view 1
rule ?0 <- emp ?0 ?1
view 2
rule ?0 ?2 <- emp ?0 ?1 , room ?1 ?2 ; ?0 != ?2
rule ?0 none <- emp ?0 ?1 , room ?1 r1
"""
MAY = "may emp delete insert\nmay boss delete\nmay room\n"
WISH = MAY + "remove 0 ann cy\nadd 0 ann di\nremove 2 ann r1\nadd 2 ann r2\nremove 2 ann none\n"


def read_all(schema_text, database_text, views_text, wish_text):
    schema = read_schema(schema_text)
    views = read_views(schema, views_text)
    return (schema, read_database(schema, database_text), views, read_wish(schema, views, wish_text))


def write_all(task):
    schema, database, views, wish = task
    return (write_schema(schema), write_facts(database), write_views(views), write_wish(schema, wish))


def live_change(views, change):
    """Make the change in each of the live views, fact by fact."""
    deleted, inserted = change
    for view in views:
        for fact in deleted:
            view.delete(fact)
        for fact in inserted:
            view.insert(fact)


class Story(unittest.TestCase):
    def test_written_and_read_back(self):
        task = read_all(SCHEMA, DATABASE, VIEWS, WISH)
        check_task(task)
        self.assertEqual(write_all(task), (SCHEMA, DATABASE, VIEWS, WISH))
        self.assertEqual(read_all(*write_all(task)), task)

    def test_a_wish_is_done_at_a_desk(self):
        task = read_all(SCHEMA, DATABASE, VIEWS, WISH)
        before = copy.deepcopy(task)
        schema, database, views, (edits, may) = task
        desk = Desk(schema, database, views, may=may)
        live = [LiveView(schema, database, view) for view in views]
        change = desk.edit(edits)
        live_change(live, change)
        self.assertEqual(write_change(change), "delete emp ann x\ninsert emp ann y\n")
        self.assertEqual(read_change(schema, database, write_change(change)), change)
        self.assertTrue(does(task, change))
        self.assertEqual(faults(task, change), [])
        self.assertEqual(desk.database, after(schema, database, change))
        self.assertEqual(difference(schema, database, desk.database), change)
        for place, rows in enumerate(wanted(task)):
            self.assertEqual(desk.rows(place), rows)
            self.assertEqual(live[place].rows(), rows)
            self.assertEqual(live[place].facts(), desk.database)
        self.assertEqual(task, before)

    def test_the_journal_is_replayed_undone_and_redone(self):
        schema, database, views, (edits, may) = read_all(SCHEMA, DATABASE, VIEWS, WISH)
        desk = Desk(schema, database, views, may=may)
        first = desk.edit(edits)
        second = ([("room", ("y", "r2"))], [("room", ("z", "r2"))])
        desk.put(second)
        whole = compose(schema, database, first, second)
        self.assertEqual(after(schema, database, whole), desk.database)
        other = replay(schema, database, views, desk.journal(), may=may)
        self.assertEqual((other.database, other.journal()), (desk.database, desk.journal()))
        live = [LiveView(schema, database, view) for view in views]
        live_change(live, whole)
        for deed, back in [("undo", inverse(second)), ("undo", inverse(first)), ("redo", first), ("redo", second)]:
            for each in (desk, other):
                change = each.undo() if deed == "undo" else each.redo()
                self.assertEqual(change, back)
            live_change(live, change)
            self.assertEqual([view.rows() for view in live], [desk.rows(place) for place in range(len(views))])
            self.assertEqual(other.database, desk.database)
        self.assertEqual(replay(schema, database, views, desk.journal(), may=may).journal(), desk.journal())

    def test_a_wish_that_cannot_be_done(self):
        task = read_all(SCHEMA, DATABASE, VIEWS, MAY + "remove 0 ann cy\nremove 0 bea cy\nremove 1 dot\n")
        schema, database, views, (edits, may) = task
        desk = Desk(schema, database, views, may=may)
        self.assertRaises(CannotBeDone, desk.edit, edits)
        self.assertEqual((desk.database, desk.journal()), (database, []))
        self.assertTrue(is_refutation(task, ([], []), refute(task)))
        self.assertEqual(clash(task), [2])
        self.assertEqual(give_up(task), [[2]])
        further = company(task)
        self.assertEqual(further, [(0, "remove", ("dot", "di")), (2, "remove", ("dot", "r2"))])
        change = desk.edit(edits + further)
        self.assertEqual(change, ([("emp", ("dot", "y")), ("boss", ("x", "cy"))], []))
        prices = [(1, 1), (9, 9), (9, 9)]
        whole = (schema, database, views, (edits + further, may))
        self.assertEqual(cheapest(whole, prices=prices), (price_of(schema, prices, change), change))

    def test_made_stories(self):
        done = 0
        for seed in range(150):
            task = made_task(seed)
            schema, database, views, (edits, may) = task
            self.assertEqual(read_all(*write_all(task)), task)
            change = solve(task)
            if change is None or len(edits) > 6:
                continue
            desk = Desk(schema, database, views, may=may)
            made = desk.edit(edits)
            self.assertIn(len(made[0] + made[1]), [len(each[0] + each[1]) for each in all_least(task)][:1])
            live = [LiveView(schema, database, view) for view in views]
            live_change(live, made)
            for place, rows in enumerate(wanted(task)):
                self.assertEqual(desk.rows(place), rows)
                self.assertEqual(live[place].rows(), rows)
                lost, gained = effect(schema, database, views[place], made)
                self.assertEqual(sorted(rows + lost), sorted(view_rows(database, views[place]) + gained))
            text = write_change(made)
            self.assertEqual(read_change(schema, database, text), made)
            other = replay(schema, database, views, desk.journal(), may=may)
            self.assertEqual(other.undo(), inverse(made))
            self.assertEqual(other.database, database)
            self.assertEqual(other.redo(), made)
            self.assertEqual(other.database, desk.database)
            done += made != ([], [])
        self.assertGreater(done, 20)
