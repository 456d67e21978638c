"""How many facts the changes of a position must have at least."""

from wishshown.bits import how_many
from wishshown.filling import head_match

# A fact is shared out in this many parts; all numbers up to 16 divide it.
WHOLE = 720720
# More missing rows than these are left aside, so that weighing stays quick.
MOST_ROWS = 8


def weight(board, position):
    """A number of facts that each change of the position that does the wish has; None if there is no such change."""
    deletions = _deletions(board, position)
    insertions = _insertions(board, position)
    if deletions is None or insertions is None:
        return None
    return how_many(position.gone) + how_many(position.must & ~board.base) + deletions + insertions


def _deletions(board, position):
    """The number of some extra witnesses without common facts: each of them must lose a fact."""
    taken = 0
    count = 0
    for options in sorted([board.options(position, bits) for _, _, bits in board.extras(position)], key=how_many):
        if options == 0:
            return None
        if not options & taken:
            taken |= options
            count += 1
    return count


def _insertions(board, position):
    """A number of facts that must be inserted for the missing rows; None if one of these cannot come.

    Each inserted fact is shared out among the rows that can use it. A row costs at least its shares in the facts that
    it needs, and all rows together cost no more than there are facts.
    """
    missing = board.missing(position)[:MOST_ROWS]
    shapes = [_shapes(board, place, row) for place, row in missing]
    standing = board.listed(position.standing)
    total = 0
    for (place, row), rules in zip(missing, shapes):
        costs = [_cost(board, atoms, shapes, standing) for atoms in rules]
        least = min([cost for cost in costs if cost is not None], default=None)
        if least is None:
            board.put_blame(place, row)
            return None
        total += least
    return (total + WHOLE - 1) // WHOLE


def _shapes(board, place, row):
    """For each rule that can have the row the shapes of its facts.

    A shape is the name of a table and, for each of its columns, a word or None.
    """
    pairs = [(rule, head_match(rule, row)) for rule in board.views[place][1]]
    return [_rule_shapes(rule, dict(bound)) for rule, bound in pairs if bound is not None]


def _rule_shapes(rule, words):
    return [
        (name, tuple([words.get(worth) if kind == "var" else worth for kind, worth in terms]))
        for name, terms in rule[1]
    ]


def _are_alike(shape, other):
    """Tell whether a fact can have both shapes; a fact is a shape, too."""
    if shape[0] != other[0]:
        return False
    return all(word is None or another is None or word == another for word, another in zip(shape[1], other[1]))


def _cost(board, atoms, shapes, standing):
    """What a missing row costs if a rule with facts of these shapes has it; None if it cannot."""
    new = [shape for shape in atoms if not any(_are_alike(shape, fact) for fact in standing)]
    if not all(board.may[name][1] for name, _ in new):
        return None
    if not new:
        # Facts of all shapes are there, but they do not make the row together.
        return min([_share(shape, shapes) for shape in atoms if board.may[shape[0]][1]], default=None)
    apart = []
    for shape in new:
        # Two shapes that are alike may be those of a single fact.
        if not any(_are_alike(shape, other) for other in apart):
            apart.append(shape)
    return sum([_share(shape, shapes) for shape in apart])


def _share(shape, shapes):
    """The share of a row in a fact of this shape."""
    users = [rules for rules in shapes if any(_are_alike(shape, other) for atoms in rules for other in atoms)]
    return WHOLE // len(users)
