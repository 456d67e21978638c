"""Wishes: edits of views, the rows that they want, and the faults of changes that shall do them."""

from wishshown.errors import BadDeed, BadMay, BadRow, BadSize, ClashingEdits, UnknownView
from wishshown.tables import after, check_database, check_schema, is_row, is_whole, key_clashes, place_of
from wishshown.views import check_views, effect, view_rows

MOST_EDITS = 6
DEEDS = ("add", "remove")


def check_wish(schema, views, wish):
    """Raise the first error that is due for the wish."""
    edits, may = wish
    if len(edits) > MOST_EDITS:
        raise BadSize()
    for count, (place, deed, row) in enumerate(edits):
        if not is_whole(place, 0, len(views) - 1):
            raise UnknownView()
        if deed not in DEEDS:
            raise BadDeed()
        if not is_row(row, views[place][0]):
            raise BadRow()
        if (place, _other_deed(deed), row) in edits[:count]:
            raise ClashingEdits()
    if len(may) != len(schema) or not all(_is_pair_of_truths(value) for value in may):
        raise BadMay()


def _other_deed(deed):
    return "remove" if deed == "add" else "add"


def _is_pair_of_truths(value):
    return isinstance(value, tuple) and len(value) == 2 and all(isinstance(each, bool) for each in value)


def check_task(task):
    """Raise the first error that is due for the task."""
    schema, database, views, wish = task
    check_schema(schema)
    check_database(schema, database)
    check_views(schema, views)
    check_wish(schema, views, wish)


def wanted(task):
    """For each view the list of its wanted rows."""
    _, database, views, (edits, _) = task
    return [_wanted_rows(view_rows(database, view), place, edits) for place, view in enumerate(views)]


def _wanted_rows(rows, place, edits):
    added = [row for at, deed, row in edits if at == place and deed == "add"]
    removed = [row for at, deed, row in edits if at == place and deed == "remove"]
    return sorted(set(rows + added) - set(removed))


def faults(task, change):
    """The faults of a change that fits the database."""
    schema, database, views, (_, may) = task
    deleted, inserted = change
    end = after(schema, database, change)
    found = [("delete", fact) for fact in deleted if not may[place_of(schema, fact[0])][0]]
    found.extend([("insert", fact) for fact in inserted if not may[place_of(schema, fact[0])][1]])
    found.extend([("key", earlier, fact) for earlier, fact in key_clashes(schema, end)])
    for place, rows in enumerate(wanted(task)):
        found.extend(_row_faults(place, view_rows(end, views[place]), rows))
    return found


def _row_faults(place, rows, wanted_rows):
    wrong_rows = sorted(set(rows) ^ set(wanted_rows))
    return [("extra" if row in rows else "missing", place, row) for row in wrong_rows]


def does(task, change):
    """Tell whether the change does the wish exactly."""
    return _fits(task[1], change) and not faults(task, change)


def _fits(database, change):
    deleted, inserted = change
    return all(fact in database for fact in deleted) and not any(fact in database for fact in inserted)


def wish_of(schema, database, views, change, *, may):
    """The wish that asks for what the change, which fits the database, does to the views."""
    edits = []
    for place, view in enumerate(views):
        lost, gained = effect(schema, database, view, change)
        edits.extend([(place, "remove" if row in lost else "add", row) for row in sorted(lost + gained)])
    return (edits, list(may))
