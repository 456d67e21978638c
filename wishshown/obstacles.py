"""Rows that cannot all stay as they are if the edits of a task are done.

Rows of a view that differ only in words that are not in use are of one kind. An item (kind, number) says that at least
so many rows of the kind come or go. An obstacle is a list of items of which at least one is true for each change that
does the edits. So the rows that come or go with a change are at least as many as the items that hit all obstacles.
"""

from wishshown.board import Board
from wishshown.hitting import smallest_hitting_set
from wishshown.searching import any_end, probe

# Most obstacles are either short, or so long because all of their items are needed.
TRIES = 8


def can_be_forced(task):
    """Tell whether some change does the edits, whatever becomes of the other rows."""
    return any_end(_board_with(task, {}, None)) is not None


def sparing_change(task):
    """A change that does the edits and with which the fewest other rows come or go; None if none does the edits."""
    if not can_be_forced(task):
        return None
    obstacles = []
    while True:
        chosen = smallest_hitting_set(_without_needless(obstacles))
        found, change = _attempt(task, chosen)
        if not found:
            return change
        obstacles = obstacles + found


def _board_with(task, room, others):
    return Board(task, narrow=True, room=room, others=others)


def _attempt(task, items):
    """Obstacles in the way if no other items are true, and a change behind all of these obstacles."""
    items = list(items)
    found = []
    board = _board_with(task, _room_of(items), 0)
    end = any_end(board)
    while end is None:
        found.append(_obstacle(task, board))
        # If all items of the obstacle are true, the next one that is found has no items in common with it.
        items.extend(found[-1])
        board = _board_with(task, _room_of(items), 0)
        end = any_end(board)
    return (found, board.change_of(end))


def _room_of(items):
    """For each kind how many rows of it may come or go if the items are true."""
    room = {}
    for kind, number in sorted(items, key=lambda item: item[1]):
        if number == room.get(kind, 0) + 1:
            room[kind] = number
    return room


def _obstacle(task, board):
    """An obstacle that tells why the board has no end; items that are not needed are left out as far as is tried."""
    items = _items_of(board)
    count = 0
    while count < min(len(items), TRIES):
        rest = items[:count] + items[count + 1:]
        other = _board_with(task, {kind: number - 1 for kind, number in rest}, None)
        if probe(other) is False:
            needed = _items_of(other)
            count = len([item for item in rest[:count] if item in needed])
            items = [item for item in rest if item in needed]
        else:
            count += 1
    return items


def _items_of(board):
    """The items that, if they were true, could have given the board an end."""
    kinds = {board.kind_of(each): True for each in board.reasons if each not in board.named}
    return [(kind, board.room.get(kind, 0) + 1) for kind in kinds]


def _without_needless(obstacles):
    """The obstacles without the items in whose place another one does as well, which is kept."""
    spots = {}
    for count, group in enumerate(obstacles):
        for item in group:
            spots[item] = spots.get(item, 0) | 1 << count
    kept = {}
    for item, places in spots.items():
        kept.setdefault(places, item)
    best = [each for spot, each in kept.items() if not any(spot != more and not spot & ~more for more in kept)]
    return [[each for each in obstacle if each in best] for obstacle in obstacles]
