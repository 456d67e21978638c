"""Cases of tasks, what is wrong in them, and the cases into which they are parted."""

from wishshown.board import Board
from wishshown.choosing import choose
from wishshown.filling import fillings
from wishshown.fresh import fresh_words, strange_words, words_in_use
from wishshown.joins import variables_of
from wishshown.tables import ascending, without
from wishshown.views import witnesses


def first_case():
    """The first case of each task."""
    return ([], [])


def standing(task, case):
    """The standing facts of the case."""
    schema, database, _, _ = task
    gone, must = case
    return ascending(schema, without(database, gone) + must)


def change_of(task, case):
    """The change of the case."""
    gone, must = case
    return (list(gone), without(must, task[1]))


def ways(task, case, rule, row):
    """The ways of the rule to have the row."""
    used = words_in_use(task)
    variables = variables_of(rule[1])
    count = len(strange_words(used, case[1]))
    fresh = fresh_words(used, count + len(variables))
    words = {variable: used + fresh[:count] for variable in variables}
    return fillings(rule, row, words, further=fresh[count:], allows=lambda fact, others: True)


def children(task, case, node):
    """The children of the node; None if it does not fit the case."""
    board = Board(task)
    position = board.position_of(case)
    steps = steps_of(board, position, node)
    return None if steps is None else [board.case_of(step) for step in steps]


def steps_of(board, position, node):
    """The children of the node on the board; None if it does not fit the position."""
    kind, place, row, *witness = node
    if kind == "missing":
        return board.missing_steps(position, place, row) if (place, row) in board.wanted else None
    if (place, row) in board.wanted or not _is_witness(board, position, place, row, witness[0]):
        return None
    return board.extra_steps(position, board.bits_of(witness[0]))


def _is_witness(board, position, place, row, witness):
    """Tell whether the list is a witness of the row in the standing facts."""
    if [fact for fact in board.facts_in(position.standing) if fact in witness] != witness:
        return False
    # Whether it is one does not depend on the other standing facts.
    return witness in witnesses(witness, board.views[place], row)


def wrong(task, case):
    """A node that names something wrong in the case; None if the case is settled."""
    board = Board(task)
    chosen = choose(board, board.position_of(case))
    return None if chosen is None else chosen[0]
