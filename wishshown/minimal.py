"""Views without the atoms and rules that they do not need."""

from wishshown.containing import contains
from wishshown.joins import variables_of


def can_leave_atom(schema, view, place, *, atom):
    """Tell whether the atom at a place of the rule at this place can be left out."""
    width, rules = view
    rule = _without_atom(rules[place], atom)
    return _is_bound(rule) and contains(schema, view, (width, [rule]))


def _without_atom(rule, place):
    head, atoms, conditions = rule
    return (head, atoms[:place] + atoms[place + 1:], list(conditions))


def _is_bound(rule):
    """Tell whether the rule has atoms, and in them all variables of its head and of its conditions."""
    head, atoms, conditions = rule
    asked = variables_of([("", head)] + [("", (left, right)) for left, _, right in conditions])
    bound = variables_of(atoms)
    return len(atoms) > 0 and all(variable in bound for variable in asked)


def can_leave_rule(schema, view, place):
    """Tell whether the rule at this place can be left out of the view."""
    width, rules = view
    others = rules[:place] + rules[place + 1:]
    return len(others) > 0 and contains(schema, (width, others), (width, [rules[place]]))


def least_view(schema, view):
    """The least form of the view."""
    width, rules = view
    rules = [(head, list(atoms), list(conditions)) for head, atoms, conditions in rules]
    for place in range(len(rules)):
        atom = 0
        while atom < len(rules[place][1]):
            if can_leave_atom(schema, (width, rules), place, atom=atom):
                rules[place] = _without_atom(rules[place], atom)
            else:
                atom += 1
    place = 0
    while place < len(rules):
        if can_leave_rule(schema, (width, rules), place):
            rules = rules[:place] + rules[place + 1:]
        else:
            place += 1
    return (width, rules)
