"""Mending: the greatest parts of some facts in which the keys hold, and the rows that views have in them."""

from wishshown.tables import key_of, same_key
from wishshown.views import view_rows, witnesses


def rivalries(schema, facts):
    """The rivalries: for each key that several facts have, these facts."""
    groups = {}
    for fact in facts:
        key = key_of(schema, fact)
        if key is not None:
            groups.setdefault(key, []).append(fact)
    return [group for group in groups.values() if len(group) > 1]


def count_mends(schema, facts):
    """The number of mends."""
    count = 1
    for rivalry in rivalries(schema, facts):
        count = count * len(rivalry)
    return count


def mends(schema, facts):
    """All mends."""
    found = [[]]
    for place, fact in enumerate(facts):
        rivals = [other for other in facts if other != fact and same_key(schema, fact, other)]
        later = [other for other in facts[place + 1:] if other in rivals]
        longer = []
        for chosen in list(found):
            free = not any(other in chosen for other in rivals)
            # Mends with the fact come ahead of those without it, which keeps them in order.
            if free:
                longer.append(chosen + [fact])
            # Without the fact a rival of it must be in the mend.
            if not free or later:
                longer.append(chosen)
        found = longer
    return found


def is_mend(schema, facts, part):
    """Tell whether the part is a mend of the facts."""
    return part in mends(schema, facts)


def certain_rows(schema, facts, view):
    """The rows that the view has in each mend, ascending."""
    found = [view_rows(mend, view) for mend in mends(schema, facts)]
    return [row for row in found[0] if all(row in rows for rows in found)]


def possible_rows(schema, facts, view):
    """The rows that the view has in some mend, ascending."""
    return sorted({row for mend in mends(schema, facts) for row in view_rows(mend, view)})


def possible_witnesses(schema, facts, view, row):
    """The witnesses of the row in which no two facts rival."""
    return [witness for witness in witnesses(facts, view, row) if not rivalries(schema, witness)]


def show_disputed(schema, facts, view, row):
    """The first mend in which it is a row of the view, and the first one in which it is not; None without both."""
    with_row, without_row = _parted(schema, facts, view, row)
    return (with_row[0], without_row[0]) if with_row and without_row else None


def count_of(schema, facts, view, row):
    """The number of the mends in which it is a row of the view."""
    return len(_parted(schema, facts, view, row)[0])


def _parted(schema, facts, view, row):
    """The mends in which it is a row of the view, and the others."""
    every = [(mend, row in view_rows(mend, view)) for mend in mends(schema, facts)]
    return ([mend for mend, there in every if there], [mend for mend, there in every if not there])
