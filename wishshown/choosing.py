"""Nodes that name something wrong, chosen so that few cases come up."""

from wishshown.bits import how_many, is_within


def choose(board, position, *, bound=None):
    """A node that fits, and those of its children that can lead on; None if nothing is wrong.

    If bound is given, only children that cost less are returned. Few children are best; that the row may become free
    counts as a further one. A row that was found to be impossible in other positions counts for less: what stands in
    its way often does so here, too. Such a row is also looked at where it is there, but need not be there to the end.
    """
    extras, rows = board.extras(position), board.missing(position)
    if not extras and not rows:
        return None
    best = None
    count = 0
    # The number of its children is divided by this before it is compared with that of another node.
    divisor = 1
    if extras:
        place, row, witness = min(extras, key=lambda each: _extra_count(board, position, each))
        best = (("extra", place, row, board.facts_in(witness)), board.extra_steps(position, witness, bound=bound))
        count = len(best[1]) + _spare(board, position, (place, row))
    for place, row in rows + _threatened(board, position, rows):
        if best is not None and count < 2:
            break
        own = 1 + board.blame.get((place, row), 0)
        spare = _spare(board, position, (place, row))
        most = None if best is None else (count * own - 1) // divisor - spare
        steps = board.live_steps(position, place, row, most=most, bound=bound)
        if most is None or len(steps) <= most:
            best = (("missing", place, row), steps)
            count = len(steps) + spare
            divisor = own
    kind, place, row = best[0][:3]
    board.note((place, row))
    if count == 0 and kind == "missing":
        board.put_blame(place, row)
    return best


def _extra_count(board, position, each):
    """The number of the children of a node for an extra row, and 1 more if the row may become free."""
    place, row, witness = each
    return how_many(board.options(position, witness)) + _spare(board, position, (place, row))


def _spare(board, position, each):
    return 1 if board.is_soft(position, each) else 0


def _threatened(board, position, missing):
    """The rows that were found to be impossible elsewhere, and that are there, but not by facts that must stand."""
    if not board.blame:
        return []
    held = {(place, row) for place, row, bits in board.made_in(position) if is_within(bits, position.must)}
    return [
        each for each in board.blame
        if each not in held and each not in missing and board.minds(position, each)
    ]
