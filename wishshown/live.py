"""A view whose rows are told while single facts are deleted and inserted."""

from wishshown.errors import AlreadyThere, NotThere
from wishshown.joins import assignments, assignments_with, row_of
from wishshown.tables import ascending


class LiveView:
    """A database and the rows of one view in it, each with the number of its assignments."""

    def __init__(self, schema, database, view):
        self._schema = list(schema)
        self._facts = ascending(schema, database)
        self._rules = [(head, list(atoms), list(conditions)) for head, atoms, conditions in view[1]]
        self._counts = {}
        for rule in self._rules:
            for assignment in assignments(self._facts, rule):
                self._add_to(row_of(rule, assignment), 1)

    def rows(self):
        """The rows of the view."""
        return sorted(self._counts)

    def count(self, row):
        """The number of the assignments that have the row."""
        return self._counts.get(row, 0)

    def facts(self):
        """The database as it stands now."""
        return list(self._facts)

    def delete(self, fact):
        """Delete the fact, and return the rows that the view had before and does not have now."""
        if fact not in self._facts:
            raise NotThere(fact)
        touched = self._rows_by(fact)
        for row in touched:
            self._add_to(row, -1)
        self._facts.remove(fact)
        return sorted({row for row in touched if row not in self._counts})

    def insert(self, fact):
        """Insert the fact, and return the rows that the view has now and did not have before."""
        if fact in self._facts:
            raise AlreadyThere(fact)
        self._facts = ascending(self._schema, self._facts + [fact])
        touched = self._rows_by(fact)
        gained = sorted({row for row in touched if row not in self._counts})
        for row in touched:
            self._add_to(row, 1)
        return gained

    def _rows_by(self, fact):
        """The row of each assignment that makes this fact of some atom."""
        return [row_of(rule, each) for rule in self._rules for each in assignments_with(self._facts, rule, fact)]

    def _add_to(self, row, many):
        """Change the count of the row; rows without assignments have no place in the counts."""
        count = self.count(row) + many
        if count == 0:
            del self._counts[row]
        else:
            self._counts[row] = count
