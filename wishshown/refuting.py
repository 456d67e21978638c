"""Refutations: trees of cases that show that no change does a wish."""

from wishshown.board import Board
from wishshown.cases import first_case, steps_of
from wishshown.choosing import choose
from wishshown.searching import any_end

DEAR = ("dear",)


def refute(task):
    """A refutation of the task; None if some change does the wish."""
    narrow = Board(task, narrow=True)
    if any_end(narrow) is not None:
        return None
    board = Board(task)
    # What stood in the way before is looked at first, which keeps the tree small.
    board.blame = narrow.blame
    return tree_of(board, board.position_of(first_case()), None)


def tree_of(board, position, bound):
    """A bound tree of a position of which no change that costs less does the wish; without a bound a refutation."""
    if bound is not None and position.price >= bound:
        return (DEAR, ())
    node, _ = choose(board, position, bound=bound)
    trees = []
    for step in steps_of(board, position, node):
        trees.append(tree_of(board, board.moved(position, step), bound))
    return (node, tuple(trees))


def is_refutation(task, case, tree):
    """Tell whether the tree is a refutation of the case of the task."""
    return is_tree_of(Board(task), case, tree, None)


def is_tree_of(board, case, tree, bound):
    """Tell whether the tree is a bound tree of the case; without a bound, whether it is a refutation."""
    waiting = [(board.position_of(case), tree)]
    while waiting:
        position, (node, trees) = waiting.pop()
        steps = _steps_below(board, position, node, bound)
        if steps is None or len(steps) != len(trees):
            return False
        waiting.extend([(board.moved(position, step), each) for step, each in zip(steps, trees)])
    return True


def _steps_below(board, position, node, bound):
    """The children that the trees under the node must be trees of; None if the node cannot stand here."""
    if node == DEAR:
        return [] if bound is not None and position.price >= bound else None
    return steps_of(board, position, node)


def size(tree):
    """The number of the nodes of the tree."""
    return len(_nodes_of(tree))


def depth(tree):
    """The number of the nodes on the longest way down the tree."""
    return 1 + max([level for level, _ in _nodes_of(tree)])


def outline(tree):
    """The lines that tell the nodes of the tree, those of inner trees with more space in front."""
    return ["  " * level + _line_of(node) for level, node in _nodes_of(tree)]


def _nodes_of(tree):
    """The nodes of the tree, each ahead of those of its trees, and with the number of nodes above it."""
    found = []
    waiting = [(0, tree)]
    while waiting:
        level, (node, trees) = waiting.pop()
        found.append((level, node))
        waiting.extend([(level + 1, each) for each in trees[::-1]])
    return found


def _line_of(node):
    kind, place, row, *witness = node
    line = f"{kind} {place} {_joined(row)}"
    if kind == "missing":
        return line
    facts = " ".join([f"{name}:{_joined(words)}" for name, words in witness[0]])
    return f"{line} without {facts}"


def _joined(words):
    return ",".join(words)
