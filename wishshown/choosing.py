"""Nodes that name something wrong, chosen so that few cases come up."""

from wishshown.bits import how_many, is_within


def choose(board, position):
    """A node that fits, and those of its children that can lead on; None if nothing is wrong.

    Few children are best. A row that was found to be impossible in other positions counts for less: what stands in
    its way often does so here, too. Such a row is also looked at where it is there, but need not be there to the end.
    """
    extras, rows = board.extras(position), board.missing(position)
    if not extras and not rows:
        return None
    best = None
    # The number of its children is divided by this before it is compared with that of another node.
    divisor = 1
    if extras:
        place, row, witness = min(extras, key=lambda each: how_many(board.options(position, each[2])))
        best = (("extra", place, row, board.facts_in(witness)), board.extra_steps(position, witness))
    for place, row in rows + _threatened(board, position, rows):
        if best is not None and len(best[1]) < 2:
            break
        own = 1 + board.blame.get((place, row), 0)
        most = None if best is None else (len(best[1]) * own - 1) // divisor
        steps = board.live_steps(position, place, row, most)
        if most is None or len(steps) <= most:
            best = (("missing", place, row), steps)
            divisor = own
    if not best[1] and best[0][0] == "missing":
        board.put_blame(best[0][1], best[0][2])
    return best


def _threatened(board, position, missing):
    """The rows that were found to be impossible elsewhere, and that are there, but not by facts that must stand."""
    if not board.blame:
        return []
    held = {(place, row) for place, row, bits in board.made_in(position) if is_within(bits, position.must)}
    return [each for each in board.blame if each not in held and each not in missing]
