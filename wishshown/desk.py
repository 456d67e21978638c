"""A desk: a database that is edited through its views, with undoing, redoing and a journal."""

from wishshown.errors import BadEntry, CannotBeDone, NothingToRedo, NothingToUndo, UnknownView, ViewError
from wishshown.searching import solve
from wishshown.tables import after, check_change, check_database, check_schema, inverse, is_whole
from wishshown.views import check_views, view_rows
from wishshown.wishes import check_wish, does


class Desk:
    """A database with its views, and what was done to it.

    The lists that a desk keeps are never modified, but replaced by new ones: so what stood before a deed can be put
    back as it was.
    """

    def __init__(self, schema, database, views, *, may):
        check_schema(schema)
        check_database(schema, database)
        check_views(schema, views)
        check_wish(schema, views, ([], may))
        self._schema = list(schema)
        self._views = [(width, [_copied_rule(rule) for rule in rules]) for width, rules in views]
        self._may = list(may)
        self._facts = list(database)
        # The changes that can be undone and redone, the next one last.
        self._done = []
        self._undone = []
        self._entries = []

    def __len__(self):
        return len(self._facts)

    def __contains__(self, fact):
        return fact in self._facts

    def __iter__(self):
        return iter(self._facts)

    @property
    def database(self):
        """The database."""
        return list(self._facts)

    @property
    def can_undo(self):
        """Whether there is something to undo."""
        return len(self._done) > 0

    @property
    def can_redo(self):
        """Whether there is something to redo."""
        return len(self._undone) > 0

    def journal(self):
        """The deeds that raised no error, in order."""
        return [_copied_entry(entry) for entry in self._entries]

    def rows(self, place):
        """The rows of the view at this place."""
        if not is_whole(place, 0, len(self._views) - 1):
            raise UnknownView()
        return view_rows(self._facts, self._views[place])

    def edit(self, edits):
        """Do the edits with as few facts as can be, and return the change that was made."""
        check_wish(self._schema, self._views, (edits, self._may))
        change = solve(self._task(edits))
        if change is None:
            raise CannotBeDone()
        self._make(("edit", edits, change), change)
        return change

    def edit_all(self, lists):
        """Do several lists of edits, all or none of them, and return the changes that were made."""
        before = (self._facts, self._done, self._undone, self._entries)
        try:
            return [self.edit(edits) for edits in lists]
        except ViewError:
            self._facts, self._done, self._undone, self._entries = before
            raise

    def put(self, change):
        """Make the change."""
        check_change(self._schema, self._facts, change)
        self._make(("change", change), change)

    def undo(self):
        """Take back the last edit or change that is not undone, and return the change that does so."""
        if not self.can_undo:
            raise NothingToUndo()
        change = self._done[-1]
        back = inverse(change)
        self._facts = after(self._schema, self._facts, back)
        self._done = self._done[:-1]
        self._undone = self._undone + [change]
        self._entries = self._entries + [("undo",)]
        return back

    def redo(self):
        """Do again what was undone last and is not done again, and return the change that does so."""
        if not self.can_redo:
            raise NothingToRedo()
        change = self._undone[-1]
        self._facts = after(self._schema, self._facts, change)
        self._done = self._done + [change]
        self._undone = self._undone[:-1]
        self._entries = self._entries + [("redo",)]
        return _copied_change(change)

    def repeat(self, entry):
        """Do the deed of an entry of a journal. If it is wrong, return False or raise an error, and change nothing."""
        if entry[0] == "undo":
            self.undo()
        elif entry[0] == "redo":
            self.redo()
        elif entry[0] == "change":
            self.put(entry[1])
        else:
            return self._repeat_edit(entry)
        return True

    def _repeat_edit(self, entry):
        """Do the edit of the entry with the change that stands in it, and tell whether it is right."""
        _, edits, change = entry
        check_wish(self._schema, self._views, (edits, self._may))
        check_change(self._schema, self._facts, change)
        task = self._task(edits)
        if not does(task, change) or _has_shorter(task, change):
            return False
        self._make(entry, change)
        return True

    def _task(self, edits):
        return (self._schema, self._facts, self._views, (edits, self._may))

    def _make(self, entry, change):
        """Make the change, for which the entry stands in the journal, if the database after it is right."""
        end = after(self._schema, self._facts, change)
        check_database(self._schema, end)
        self._facts = end
        self._done = self._done + [_copied_change(change)]
        self._undone = []
        self._entries = self._entries + [_copied_entry(entry)]


def _has_shorter(task, change):
    """Tell whether a change with fewer facts does the wish."""
    deleted, inserted = change
    count = len(deleted) + len(inserted)
    return count > 0 and solve(task, most=count - 1) is not None


def _copied_rule(rule):
    head, atoms, conditions = rule
    return (head, list(atoms), list(conditions))


def _copied_change(change):
    deleted, inserted = change
    return (list(deleted), list(inserted))


def _copied_entry(entry):
    """The entry with new lists."""
    if entry[0] == "edit":
        _, edits, change = entry
        return ("edit", list(edits), _copied_change(change))
    if entry[0] == "change":
        return ("change", _copied_change(entry[1]))
    return entry


def replay(schema, database, views, journal, *, may):
    """The desk that doing the entries of the journal makes."""
    desk = Desk(schema, database, views, may=may)
    for place, entry in enumerate(journal):
        if not _is_repeated(desk, entry):
            raise BadEntry(place)
    return desk


def _is_repeated(desk, entry):
    """Do the deed of the entry, and tell whether it is right."""
    try:
        return desk.repeat(entry)
    except ViewError:
        return False
