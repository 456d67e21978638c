"""Removing rows of views by deleting facts alone."""

from wishshown.bits import places_in, union
from wishshown.hitting import least_hitting
from wishshown.joins import assignments, facts_made, row_of
from wishshown.tables import without
from wishshown.views import is_kept, lost_rows, witnesses


def groups_of(database, views, removals, tables):
    """The groups of the removals: for each witness of each of their rows, its facts that may be deleted."""
    return [
        [fact for fact in witness if fact[0] in tables]
        for place, row in removals for witness in witnesses(database, views[place], row)
    ]


def loss(database, views, removals, deletion):
    """The rows, with the places of their views, that are lost by the deletion and are no removals."""
    lost = [(place, row) for place, view in enumerate(views) for row in lost_rows(database, view, deleted=deletion)]
    return without(lost, removals)


def is_exact_deletion(database, views, removals, tables, *, deleted):
    """Tell whether the list is an exact deletion."""
    gone = set(deleted)
    if [fact for fact in database if fact in gone] != deleted or not all(fact[0] in tables for fact in deleted):
        return False
    if any(is_kept(database, views[place], row, deleted=deleted) for place, row in removals):
        return False
    return loss(database, views, removals, deleted) == []


def least_deletions(database, views, removals, tables):
    """The least exact deletions."""
    others = _other_rows(database, views, removals)
    found = least_hitting(
        _group_numbers(database, views, removals, tables),
        lambda chosen, whole: _lost_count(others, chosen) == 0,
    )
    return [_facts_at(database, places) for places in sorted([places_in(chosen) for chosen in found])]


def gentlest(database, views, removals, tables):
    """The gentlest deletion and its loss; None if no deletion does the removals."""
    others = _other_rows(database, views, removals)
    fewest = len(others)

    def allows(chosen, whole):
        nonlocal fewest
        count = _lost_count(others, chosen)
        if count > fewest:
            return False
        if whole:
            fewest = count
        return True

    found = least_hitting(_group_numbers(database, views, removals, tables), allows)
    if not found:
        return None
    _, places = min([(_lost_count(others, chosen), places_in(chosen)) for chosen in found])
    deletion = _facts_at(database, places)
    return (deletion, loss(database, views, removals, deletion))


def _facts_at(database, places):
    return [database[place] for place in places]


def _number_of(database, facts):
    """The number with the places that the facts have in the database."""
    return union([1 << database.index(fact) for fact in facts])


def _group_numbers(database, views, removals, tables):
    return [_number_of(database, group) for group in groups_of(database, views, removals, tables)]


def _other_rows(database, views, removals):
    """For each row of a view that is no removal the numbers of its witnesses."""
    found = {}
    for place, view in enumerate(views):
        for rule in view[1]:
            for assignment in assignments(database, rule):
                numbers = found.setdefault((place, row_of(rule, assignment)), {})
                numbers[_number_of(database, facts_made(rule[1], assignment))] = True
    return [list(found[key]) for key in without(list(found), removals)]


def _lost_count(others, chosen):
    """The number of the other rows each of whose witnesses has a chosen fact."""
    return len([numbers for numbers in others if all(number & chosen for number in numbers)])
