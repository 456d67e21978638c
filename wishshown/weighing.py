"""What the changes of a position must cost at least."""

from wishshown.bits import how_many
from wishshown.filling import head_match

# The price of a fact is shared out in this many parts; all numbers up to 16 divide it.
WHOLE = 720720


def weight(board, position):
    """A price that each change of the position that does the wish costs; None if there is no such change."""
    deletions = _deletions(board, position)
    insertions = _insertions(board, position)
    if deletions is None or insertions is None:
        return None
    return position.price + deletions + insertions


def _deletions(board, position):
    """The price of some extra witnesses without common facts: each of them must lose a fact."""
    taken = 0
    total = 0
    extras = [extra for extra in board.extras(position) if not board.is_soft(position, extra[:2])]
    pairs = [(board.options(position, bits), (place, row)) for place, row, bits in extras]
    for options, each in sorted(pairs, key=lambda pair: how_many(pair[0])):
        if options == 0:
            board.note(each)
            return None
        if not options & taken:
            taken |= options
            total += _least_price(board, options)
    return total


def _least_price(board, options):
    """The price of deleting the cheapest one of these facts."""
    return min([pair[0] for name, pair in board.prices.items() if board.by_table[name] & options])


def _insertions(board, position):
    """A price of the facts that must be inserted for the missing rows; None if one of these cannot come.

    Each inserted fact is shared out among the rows that can use it. A row costs at least its shares in the facts that
    it needs, and all rows together cost no more than the facts do.
    """
    missing = [each for each in board.missing(position) if not board.is_soft(position, each)]
    shapes = [_shapes(board, place, row) for place, row in missing]
    users = _users(shapes)
    there = _shapes_there(list(users), board.listed(position.standing))
    total = 0
    for (place, row), rules in zip(missing, shapes):
        costs = [_cost(board, atoms, users, there) for atoms in rules]
        least = min([cost for cost in costs if cost is not None], default=None)
        if least is None:
            board.put_blame(place, row)
            board.note((place, row))
            return None
        total += least
    return (total + WHOLE - 1) // WHOLE


def _shapes(board, place, row):
    """For each rule that can have the row the shapes of its facts.

    A shape is the name of a table and, for each of its columns, a word or None.
    """
    if (place, row) not in board.shapes:
        pairs = [(rule, head_match(rule, row)) for rule in board.views[place][1]]
        board.shapes[(place, row)] = [_rule_shapes(rule, dict(bound)) for rule, bound in pairs if bound is not None]
    return board.shapes[(place, row)]


def _rule_shapes(rule, words):
    return [
        (name, tuple([words.get(worth) if kind == "var" else worth for kind, worth in terms]))
        for name, terms in rule[1]
    ]


def _columns(shape):
    """The columns of the shape that have a word."""
    return tuple([column for column, word in enumerate(shape[1]) if word is not None])


def _picked(words, columns):
    return tuple([words[column] for column in columns])


def _known(shape):
    """The words of the shape."""
    return _picked(shape[1], _columns(shape))


def _users(shapes):
    """For each shape the number of the rows that can use a fact of this shape, or a greater number."""
    groups = {}
    for number, rules in enumerate(shapes):
        for shape in [each for atoms in rules for each in atoms]:
            groups.setdefault((shape[0], _columns(shape)), {}).setdefault(shape, {})[number] = True
    users = {}
    for (name, columns), group in groups.items():
        for (other, others), more in groups.items():
            if other == name:
                common = [column for column in columns if column in others]
                found = {}
                for shape, numbers in more.items():
                    found.setdefault(_picked(shape[1], common), {}).update(numbers)
                for shape in group:
                    users[shape] = users.get(shape, 0) + len(found.get(_picked(shape[1], common), {}))
    return users


def _shapes_there(shapes, standing):
    """The shapes that standing facts have, as the keys of a dict."""
    found = {}
    for name, columns in sorted({(shape[0], _columns(shape)) for shape in shapes}):
        for table, row in standing:
            if table == name:
                found[(name, columns, _picked(row, columns))] = True
    return {shape: True for shape in shapes if (shape[0], _columns(shape), _known(shape)) in found}


def _are_alike(shape, other):
    """Tell whether a fact can have both shapes."""
    if shape[0] != other[0]:
        return False
    return all(word is None or another is None or word == another for word, another in zip(shape[1], other[1]))


def _cost(board, atoms, users, there):
    """What a missing row costs if a rule with facts of these shapes has it; None if it cannot."""
    new = [shape for shape in atoms if shape not in there]
    if not all(board.may[name][1] for name, _ in new):
        return None
    if not new:
        # Facts of all shapes are there, but they do not make the row together.
        return min([_share(board, shape, users) for shape in atoms if board.may[shape[0]][1]], default=None)
    apart = []
    for shape in new:
        # Two shapes that are alike may be those of a single fact.
        if not any(_are_alike(shape, other) for other in apart):
            apart.append(shape)
    return sum([_share(board, shape, users) for shape in apart])


def _share(board, shape, users):
    """What a row that uses a fact of this shape costs at least for it, in parts of a whole."""
    return board.prices[shape[0]][1] * WHOLE // users[shape]
