"""Plain rules from which every row can be removed, whatever the database."""

from wishshown.errors import NotPlain, NotRemovable, RowNotThere
from wishshown.filling import head_match
from wishshown.joins import facts_made, variables_of


def is_plain(rule):
    """Tell whether the rule is plain."""
    head, atoms, conditions = rule
    names = [name for name, _ in atoms]
    shown = all(("var", variable) in head for variable in variables_of(atoms))
    return shown and len(conditions) == 0 and len(set(names)) == len(names)


def facts_of(rule, row):
    """The facts of the row of a plain rule, in the order of the atoms; None if it has none."""
    head, atoms, _ = rule
    assignment = head_match(rule, row) if len(row) == len(head) else None
    return None if assignment is None else facts_made(atoms, assignment)


def closure(schema, rule, variables):
    """The closure of the variables of the plain rule, ascending."""
    keys = {name: key for name, _, key in schema}
    keyed = [(variables_of([("", terms[:keys[name]])]), variables_of([("", terms)]))
             for name, terms in rule[1] if keys[name] is not None]
    known = {variable: True for variable in variables}
    # Each turn but the last ones uses up an atom, so as many turns as there are atoms are enough.
    for _ in keyed:
        for own, every in keyed:
            if all(variable in known for variable in own):
                known.update({variable: True for variable in every})
    return sorted(list(known))


def removal_place(schema, rule):
    """The place of the first atom whose variables have all variables of the rule in their closure; None without one."""
    if not is_plain(rule):
        raise NotPlain()
    atoms = rule[1]
    every = variables_of(atoms)
    for place, atom in enumerate(atoms):
        if closure(schema, rule, variables_of([atom])) == every:
            return place
    return None


def remove_row(schema, database, rule, *, row):
    """The change that removes the row of the plain rule and no other one."""
    place = removal_place(schema, rule)
    if place is None:
        raise NotRemovable()
    facts = facts_of(rule, row)
    if facts is None or not all(fact in database for fact in facts):
        raise RowNotThere()
    return ([facts[place]], [])
