"""Prices of deleting and inserting facts: the cheapest changes, and trees that show that none is cheaper."""

from wishshown.board import Board
from wishshown.refuting import is_tree_of, tree_of
from wishshown.searching import any_end, cheapest_end
from wishshown.tables import place_of


def price_of(schema, prices, change):
    """The price of the change."""
    deleted, inserted = change
    deleting = sum([prices[place_of(schema, name)][0] for name, _ in deleted])
    return deleting + sum([prices[place_of(schema, name)][1] for name, _ in inserted])


def cheapest(task, *, prices):
    """The price of a cheapest change and the change; None if no change does the wish."""
    board = Board(task, narrow=True, prices=prices)
    position = cheapest_end(board, None)
    return None if position is None else (position.price, board.change_of(position))


def bound_tree(task, *, prices, bound):
    """A bound tree of the task; None if a change that does the wish costs less than the bound."""
    narrow = Board(task, narrow=True, prices=prices)
    if any_end(narrow, most=bound - 1) is not None:
        return None
    board = Board(task, prices=prices)
    # What stood in the way before is looked at first, which keeps the tree small.
    board.blame = narrow.blame
    return tree_of(board, board.position_of(([], [])), bound)


def is_bound_tree(task, case, tree, *, prices, bound):
    """Tell whether the tree is a bound tree of the case of the task for the bound."""
    return is_tree_of(Board(task, prices=prices), case, tree, bound)
