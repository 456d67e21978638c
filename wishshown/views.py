"""Views: their check, their rows, the witnesses of these, and what changes do to them."""

from wishshown.errors import BadRow, BadSign, BadSize, BadTerm, BadWidth, UnboundVariable, UnknownTable
from wishshown.joins import assignments, assignments_with, row_of, rule_rows, variables_of, witness_of
from wishshown.tables import MOST_COLUMNS, after, is_whole, is_word, place_of, without

MOST_VIEWS = 4
MOST_RULES = 3
MOST_ATOMS = 3
MOST_CONDITIONS = 3
LAST_VARIABLE = 7
MOST_HIDDEN = 3


def check_views(schema, views):
    """Raise the first error that is due for the views."""
    if not 1 <= len(views) <= MOST_VIEWS:
        raise BadSize()
    for width, rules in views:
        if not is_whole(width, 1, MOST_COLUMNS):
            raise BadWidth()
        if not 1 <= len(rules) <= MOST_RULES:
            raise BadSize()
        for rule in rules:
            _check_rule(schema, width, rule)


def _check_rule(schema, width, rule):
    head, atoms, conditions = rule
    if not 1 <= len(atoms) <= MOST_ATOMS or len(conditions) > MOST_CONDITIONS:
        raise BadSize()
    for name, terms in atoms:
        place = place_of(schema, name)
        if place is None:
            raise UnknownTable()
        _check_terms(terms, schema[place][1])
    _check_terms(head, width)
    for left, sign, right in conditions:
        if sign not in ("=", "!="):
            raise BadSign()
        _check_terms((left, right), 2)
    _check_variables(head, atoms, conditions)


def _check_terms(terms, width):
    if len(terms) != width:
        raise BadRow()
    if not all(_is_term(value) for value in terms):
        raise BadTerm()


def _is_term(value):
    if not isinstance(value, tuple) or len(value) != 2:
        return False
    kind, worth = value
    return (kind == "var" and is_whole(worth, 0, LAST_VARIABLE)) or (kind == "word" and is_word(worth))


def _check_variables(head, atoms, conditions):
    bound = variables_of(atoms)
    sides = [term for left, _, right in conditions for term in (left, right)]
    if not all(worth in bound for kind, worth in list(head) + sides if kind == "var"):
        raise UnboundVariable()
    if len([variable for variable in bound if ("var", variable) not in head]) > MOST_HIDDEN:
        raise BadSize()


def view_rows(database, view):
    """The rows of the view."""
    return sorted({row for rule in view[1] for row in rule_rows(database, rule)})


def witnesses(database, view, row):
    """The witnesses of the row; an empty list if it is no row of the view."""
    return [[database[place] for place in places] for places in _witness_places(database, view, row)]


def _witness_places(database, view, row):
    """The witnesses of the row, each as the ascending tuple of the places of its facts."""
    found = [
        witness_of(database, rule, assignment)
        for rule in view[1] for assignment in assignments(database, rule) if row_of(rule, assignment) == row
    ]
    return sorted({tuple([database.index(fact) for fact in witness]) for witness in found})


def minimal_witnesses(database, view, row):
    """The witnesses of the row that contain no other one."""
    found = _witness_places(database, view, row)
    known = set(found)
    # A witness has at most three facts, so its few parts are looked up instead of all other witnesses.
    least = [places for places in found if not any([part in known for part in _proper_parts(places)])]
    return [[database[place] for place in places] for places in least]


def _proper_parts(places):
    """All parts of the ascending tuple, each as an ascending tuple, without the whole."""
    parts = [()]
    for place in places:
        parts = parts + [(*part, place) for part in parts]
    return parts[:-1]


def rows_with(database, view, fact):
    """The rows of the view that have a witness with this fact."""
    return sorted({row_of(rule, each) for rule in view[1] for each in assignments_with(database, rule, fact)})


def is_kept(database, view, row, *, deleted):
    """Tell whether the row is one of the view when the facts in deleted are gone."""
    return row in view_rows(without(database, deleted), view)


def lost_rows(database, view, *, deleted):
    """The rows of the view that are none when the facts in deleted are gone."""
    return without(view_rows(database, view), view_rows(without(database, deleted), view))


def effect(schema, database, view, change):
    """The rows that the view loses by the change, and those that it gains."""
    before = view_rows(database, view)
    behind = view_rows(after(schema, database, change), view)
    return (without(before, behind), without(behind, before))
