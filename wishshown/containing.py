"""Views that contain one another, in all collections of facts."""

from wishshown.fresh import fresh_words
from wishshown.joins import assignments, facts_made, filled, holds, row_of, variables_of
from wishshown.tables import ascending

# No word begins with this sign, so that what does stands for a word that is not known yet.
UNKNOWN = "?"


def words_of_views(views):
    """The words in the heads, atoms and conditions of the views, ascending, each once."""
    terms = [term for _, rules in views for rule in rules for row in _rows_of_terms(rule) for term in row]
    return sorted({worth for kind, worth in terms if kind == "word"})


def _rows_of_terms(rule):
    head, atoms, conditions = rule
    return [head] + [terms for _, terms in atoms] + [_sides(condition) for condition in conditions]


def _sides(condition):
    left, _, right = condition
    return (left, right)


def patterns(rule, words):
    """The patterns of the rule for the words."""
    variables = variables_of(rule[1])
    found = [()] if _can_hold(rule, ()) else []
    for variable in variables:
        longer = [more for pattern in found for more in _longer(pattern, variable, words, len(variables))]
        found = [pattern for pattern in longer if _can_hold(rule, pattern)]
    return found


def _longer(pattern, variable, words, most):
    """The beginning of a pattern with each word that the next variable can have; most is the number of variables."""
    given = [word for _, word in pattern]
    fresh = fresh_words(words, most)
    come = len([word for word in fresh if word in given])
    return [(*pattern, (variable, word)) for word in words + fresh[:come + 1]]


def _can_hold(rule, pattern):
    """Tell whether the beginning of a pattern fulfills the conditions whose variables it has."""
    given = [variable for variable, _ in pattern]
    due = [each for each in rule[2] if all(variable in given for variable in variables_of([("", _sides(each))]))]
    return all(holds(condition, pattern) for condition in due)


def collection_of(schema, rule, pattern):
    """The collection of a pattern of the rule."""
    return ascending(schema, facts_made(rule[1], pattern))


def contains(schema, view, other):
    """Tell whether the view contains the other one."""
    return _separated(schema, view, other) is None


def separating(schema, view, other):
    """The collection and the row by which the views are separated; None if the view contains the other one."""
    found = _separated(schema, view, other)
    if found is None:
        return None
    rule, pattern = found
    return (collection_of(schema, rule, pattern), row_of(rule, pattern))


def _separated(schema, view, other):
    """The first rule of the other view, and its first pattern, whose row the view does not have; None without one."""
    words = words_of_views([view, other])
    for rule in other[1]:
        pattern = _first_lacking(schema, view, rule, words)
        if pattern is not None:
            return (rule, pattern)
    return None


def _first_lacking(schema, view, rule, words):
    """The first pattern of the rule whose row the view does not have in its collection; None if there is none."""
    variables = variables_of(rule[1])
    waiting = [()]
    while waiting:
        pattern = waiting.pop()
        if _can_hold(rule, pattern) and not _is_sure(schema, view, rule, pattern):
            if len(pattern) == len(variables):
                return pattern
            waiting.extend(_longer(pattern, variables[len(pattern)], words, len(variables))[::-1])
    return None


def _is_sure(schema, view, rule, pattern):
    """Tell whether the view surely has the rows of all patterns that begin so.

    The other variables get different unknown words. An assignment of the view that is found so stays one, whatever
    these words become, if none of its conditions asks for an unknown word to differ from another one.
    """
    begun = dict(pattern)
    whole = tuple([(variable, begun.get(variable, f"{UNKNOWN}{variable}")) for variable in variables_of(rule[1])])
    apart = [filled(_sides(each), dict(whole)) for each in rule[2] if each[1] == "!="]
    return any(
        all(_stays(condition, assignment, apart) for condition in own[2])
        for _, own, assignment in _having(schema, view, rule, whole)
    )


def _having(schema, view, rule, pattern):
    """The assignments of the view with the row of the pattern in its collection, each (place, rule, assignment)."""
    facts = collection_of(schema, rule, pattern)
    row = row_of(rule, pattern)
    return [
        (place, own, assignment) for place, own in enumerate(view[1]) for assignment in assignments(facts, own)
        if row_of(own, assignment) == row
    ]


def _stays(condition, assignment, apart):
    """Tell whether the condition, which is fulfilled, stays so; pairs of words in apart stay different."""
    first, second = filled(_sides(condition), dict(assignment))
    if condition[1] == "=" or (first, second) in apart or (second, first) in apart:
        return True
    return not first.startswith(UNKNOWN) and not second.startswith(UNKNOWN)


def shown(schema, view, other):
    """What shows that the view contains the other one; None if it does not."""
    words = words_of_views([view, other])
    if not contains(schema, view, other):
        return None
    found = []
    for place, rule in enumerate(other[1]):
        for pattern in patterns(rule, words):
            own, _, assignment = _having(schema, view, rule, pattern)[0]
            found.append((place, pattern, own, assignment))
    return found


def equal_views(schema, view, other):
    """Tell whether each of the two views contains the other one."""
    return contains(schema, view, other) and contains(schema, other, view)
