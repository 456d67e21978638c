"""Searching changes that do a wish."""

from heapq import heappop, heappush

from wishshown.board import Board
from wishshown.choosing import choose
from wishshown.fresh import is_renamed_part, least_form
from wishshown.tables import place_of
from wishshown.weighing import weight

# How many positions the attempts of a probe look at.
PROBES = (50, 200, 800)


def ends(task):
    """Yield changes that do the wish, so that each change that does it has one of them as a part."""
    narrow = Board(task, narrow=True)
    if probe(narrow) is False:
        return
    board = Board(task)
    board.blame = narrow.blame
    for position in _settled(board, None):
        yield board.change_of(position)


def solve(task, *, most=None):
    """A change that does the wish with the least number of facts; None if there is none, or none with at most most."""
    board = Board(task, narrow=True)
    position = cheapest_end(board, most)
    return None if position is None else board.change_of(position)


def all_least(task):
    """The changes that do the wish and of which no proper part does it, alike ones once."""
    schema = task[0]
    # No end has another one as a part, so each of them is least.
    return sorted([least_form(task, change) for change in ends(task)], key=lambda change: _rank(schema, change))


def _rank(schema, change):
    """What changes are ordered by."""
    deleted, inserted = [[(place_of(schema, name), row) for name, row in facts] for facts in change]
    return (len(deleted) + len(inserted), deleted, inserted)


def any_end(board, *, most=None):
    """A settled position, whose price is at most most if this is given; None if there is none."""
    told = probe(board)
    if told is False:
        return None
    if told is not None and (most is None or told.price <= most):
        return told
    for position in _settled(board, most):
        return position
    return None


def cheapest_end(board, most):
    """A settled position with the least price; None if there is none, or none whose price is at most most."""
    told = probe(board)
    if told is False:
        return None
    best = None
    if told is not None and (most is None or told.price <= most):
        # Only what is cheaper still counts.
        best = told
        most = told.price - 1
    for position in _settled(board, most):
        return position
    return best


def probe(board):
    """A settled position, or False if there is none, if that is found out soon; otherwise None.

    Children are looked at before the other children of the positions above them. What is found to be impossible on
    the way stays on the board, so that a later attempt, or a search, begins with what is hard.
    """
    for most in PROBES:
        waiting = [board.position_of(([], []))]
        count = 0
        while waiting and count < most:
            count += 1
            position = waiting.pop()
            chosen = choose(board, position)
            if chosen is None:
                return position
            waiting.extend(_children(board, position, chosen))
        if not waiting:
            return False
    return None


def _children(board, position, chosen):
    """What the position is parted into by the chosen node; ahead of all, the one in which its row is free."""
    node, steps = chosen
    _, place, row = node[:3]
    freed = [board.freed(position, (place, row))] if board.is_soft(position, (place, row)) else []
    return freed + [board.moved(position, step) for step in steps]


def _settled(board, most):
    """Yield settled positions whose changes cost at most most, the cheaper ones first.

    Those whose change has a part that is alike to a change that was yielded before are left out. If each fact costs 1,
    all proper parts of a change come before it: then the changes that are yielded are the ones of which no proper part
    does the wish.
    """
    found = []
    seen = {}
    turn = 0
    bound = None if most is None else most + 1
    queue = [(0, 0, board.position_of(([], [])))]
    while queue:
        # Of positions with the same weight the latest one comes first, as it is likely to be nearest to an end.
        least, _, position = heappop(queue)
        need = least if position.weighed else weight(board, position)
        position.weighed = True
        if need is None or (most is not None and need > most) or _has_part(board, position, found):
            continue
        turn += 1
        if need > least:
            heappush(queue, (need, -turn, position))
            continue
        chosen = choose(board, position, bound=bound)
        if chosen is None:
            found.append(position)
            yield position
            continue
        for child in _children(board, position, chosen):
            key = (child.gone, child.must, child.free)
            if key not in seen:
                seen[key] = True
                turn += 1
                heappush(queue, (least, -turn, child))


def _has_part(board, position, found):
    """Tell whether the change of some position in found is alike to a part of the change of this position."""
    return any(_is_part(board, other, position) for other in found)


def _is_part(board, position, other):
    inserted, more = position.must & ~board.base, other.must & ~board.base
    if position.gone & ~other.gone:
        return False
    return not inserted & ~more or is_renamed_part(board.used, board.facts_in(inserted), board.facts_in(more))
