"""Databases that show that a row of a plain rule cannot always be removed."""

from wishshown.always import closure, facts_of, is_plain, removal_place
from wishshown.errors import Removable
from wishshown.joins import facts_by, filled, variables_of
from wishshown.tables import ascending


def counterexample(schema, rule):
    """A database, a row that cannot be removed from it, and the twins that show it."""
    if removal_place(schema, rule) is not None:
        raise Removable()
    head, atoms, _ = rule
    own = {variable: f"b{variable}" for variable in variables_of(atoms)}
    found = [_twin_words(schema, rule, place, own) for place in range(len(atoms))]
    facts = [fact for words in [own, *found] for fact in facts_by(atoms, words)]
    return (ascending(schema, facts), filled(head, own), [filled(head, words) for words in found])


def _twin_words(schema, rule, place, own):
    """For each variable its word in the twin of the atom at this place."""
    shared = closure(schema, rule, variables_of([rule[1][place]]))
    return {variable: word if variable in shared else f"t{place}v{variable}" for variable, word in own.items()}


def check_counterexample(schema, rule, database, *, row, twins):
    """Tell whether the twins of the row show that it cannot be removed from the database."""
    if not is_plain(rule) or len(twins) != len(rule[1]) or not _is_there(database, rule, row):
        return False
    if not all(twin != row and _is_there(database, rule, twin) for twin in twins):
        return False
    facts = facts_of(rule, row)
    return all(facts_of(rule, twin)[place] == facts[place] for place, twin in enumerate(twins))


def _is_there(database, rule, row):
    """Tell whether it is a row of the plain rule in the database."""
    facts = facts_of(rule, row)
    return facts is not None and all(fact in database for fact in facts)
