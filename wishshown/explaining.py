"""Why a wish cannot be done: clashes, what to give up, and further edits with which it can be done."""

from wishshown.board import Board
from wishshown.fresh import fresh_words, strange_words, words_in_use
from wishshown.obstacles import can_be_forced, sparing_change
from wishshown.searching import any_end
from wishshown.wishes import wish_of


def can_do(task, places):
    """Tell whether some change does exactly the edits at these places."""
    return any_end(Board(_part_of(task, places), narrow=True)) is not None


def _part_of(task, places):
    """The task with the edits at these places alone."""
    schema, database, views, (edits, may) = task
    return (schema, database, views, ([edits[place] for place in places], may))


def _places_of(task):
    return list(range(len(task[3][0])))


def clash(task):
    """Places of edits that cannot be done, while they can without any one of them; None if the wish can be done."""
    left = _places_of(task)
    if can_do(task, left):
        return None
    # The number of those places, at the end of the list, that were found to be needed.
    needed = 0
    while needed < len(left):
        rest = left[1:]
        if can_do(task, sorted(rest)):
            left = rest + left[:1]
            needed += 1
        else:
            left = rest
            needed = 0
    return sorted(left)


def give_up(task):
    """All lists of places with the least length without which the other edits can be done."""
    places = _places_of(task)
    if can_do(task, places):
        return [[]]
    # An edit that cannot be done even if all other rows may change has to be given up in any case.
    hopeless = [place for place in places if not can_be_forced(_part_of(task, [place]))]
    others = [place for place in places if place not in hopeless]
    found = []
    count = 0
    while not found:
        given = [sorted(hopeless + chosen) for chosen in _lists_of(others, count)]
        found = [out for out in given if can_do(task, [place for place in places if place not in out])]
        count += 1
    return sorted(found)


def _lists_of(places, count):
    """All ascending lists of so many of the ascending places."""
    if count == 0:
        return [[]]
    return [[place, *more] for at, place in enumerate(places) for more in _lists_of(places[at + 1:], count - 1)]


def company(task):
    """The fewest further edits with which the wish can be done; None if there are none."""
    change = sparing_change(task)
    return None if change is None else _further_edits(task, change)


def _further_edits(task, change):
    """What the change, which does the edits, does to other rows, as edits whose new words are the first fresh ones."""
    schema, database, views, (edits, may) = task
    named = {(place, row): True for place, _, row in edits}
    done, _ = wish_of(schema, database, views, change, may=may)
    further = [(place, deed, row) for place, deed, row in done if (place, row) not in named]
    used = words_in_use(task)
    strange = strange_words(used, [(place, row) for place, _, row in further])
    names = {word: name for word, name in zip(strange, fresh_words(used, len(strange)))}
    return sorted([
        (place, deed, tuple([names.get(word, word) for word in row])) for place, deed, row in further
    ])
