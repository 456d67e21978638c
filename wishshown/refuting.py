"""Refutations: trees of cases that show that no change does a wish."""

from wishshown.board import Board
from wishshown.cases import first_case, steps_of
from wishshown.choosing import choose
from wishshown.searching import can_be_done


def refute(task):
    """A refutation of the task; None if some change does the wish."""
    narrow = Board(task, narrow=True)
    if can_be_done(narrow):
        return None
    board = Board(task)
    # What stood in the way before is looked at first, which keeps the tree small.
    board.blame = narrow.blame
    return _refutation(board, board.position_of(first_case()))


def _refutation(board, position):
    """A refutation of a position of which no change does the wish."""
    node, _ = choose(board, position)
    trees = []
    for step in steps_of(board, position, node):
        trees.append(_refutation(board, board.moved(position, step)))
    return (node, tuple(trees))


def is_refutation(task, case, tree):
    """Tell whether the tree is a refutation of the case of the task."""
    board = Board(task)
    waiting = [(board.position_of(case), tree)]
    while waiting:
        position, (node, trees) = waiting.pop()
        steps = steps_of(board, position, node)
        if steps is None or len(steps) != len(trees):
            return False
        waiting.extend([(board.moved(position, step), each) for step, each in zip(steps, trees)])
    return True


def size(tree):
    """The number of the nodes of the tree."""
    return len(_nodes_of(tree))


def depth(tree):
    """The number of the nodes on the longest way down the tree."""
    return 1 + max([level for level, _ in _nodes_of(tree)])


def outline(tree):
    """The lines that tell the nodes of the tree, those of inner trees with more space in front."""
    return ["  " * level + _line_of(node) for level, node in _nodes_of(tree)]


def _nodes_of(tree):
    """The nodes of the tree, each ahead of those of its trees, and with the number of nodes above it."""
    found = []
    waiting = [(0, tree)]
    while waiting:
        level, (node, trees) = waiting.pop()
        found.append((level, node))
        waiting.extend([(level + 1, each) for each in trees[::-1]])
    return found


def _line_of(node):
    kind, place, row, *witness = node
    line = f"{kind} {place} {_joined(row)}"
    if kind == "missing":
        return line
    facts = " ".join([f"{name}:{_joined(words)}" for name, words in witness[0]])
    return f"{line} without {facts}"


def _joined(words):
    return ",".join(words)
