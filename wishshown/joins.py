"""Terms, atoms, conditions and rules, and the assignments that fulfill them.

Inside this file the words of an assignment are a dict from variables to words.
"""


def variables_of(atoms):
    """The variables of the atoms, ascending, each once."""
    return sorted({worth for _, terms in atoms for kind, worth in terms if kind == "var"})


def unify(atom, fact, assignment):
    """The assignment with words for the other variables of the atom, so that it makes the fact; or None."""
    words = _matched(atom, fact, assignment)
    return None if words is None else _assignment(words)


def holds(condition, assignment):
    """Tell whether the assignment fulfills the condition."""
    return _fulfills(dict(assignment), condition)


def assignments(database, rule):
    """All assignments of the rule in the database."""
    return _ordered(_found(database, rule))


def assignments_with(database, rule, fact):
    """The assignments of the rule in the database that make this fact of some atom."""
    _, atoms, conditions = rule
    found = []
    if fact in database:
        for place, atom in enumerate(atoms):
            words = _matched(atom, fact, ())
            if words is not None:
                found.extend(_joined([words], atoms[:place] + atoms[place + 1:], database))
    return _ordered(_fulfilling(found, conditions))


def row_of(rule, assignment):
    """The row of an assignment of the rule."""
    return _filled(rule[0], dict(assignment))


def facts_made(atoms, assignment):
    """The facts that the assignment makes of the atoms, in the order of the atoms."""
    words = dict(assignment)
    return [(name, _filled(terms, words)) for name, terms in atoms]


def witness_of(database, rule, assignment):
    """The witness of an assignment of the rule in the database."""
    made = set(facts_made(rule[1], assignment))
    return [fact for fact in database if fact in made]


def rule_rows(database, rule):
    """The rows of all assignments of the rule in the database."""
    return sorted({_filled(rule[0], words) for words in _found(database, rule)})


def _assignment(words):
    return tuple(sorted(words.items()))


def _ordered(found):
    """The assignments with the words in found, ascending, each once."""
    return sorted({_assignment(words) for words in found})


def _word(term, words):
    kind, worth = term
    return words[worth] if kind == "var" else worth


def _filled(terms, words):
    return tuple([_word(term, words) for term in terms])


def _matched(atom, fact, assignment):
    """The words of the assignment and those with which the atom makes the fact, or None if they do not agree."""
    name, terms = atom
    table, row = fact
    if name != table:
        return None
    words = dict(assignment)
    for (kind, worth), word in zip(terms, row):
        if kind == "var":
            if words.setdefault(worth, word) != word:
                return None
        elif worth != word:
            return None
    return words


def _joined(found, atoms, database):
    """The words in found, each with the words of all facts that fit the atoms and agree with it."""
    for atom in atoms:
        found = _joined_with(found, atom, database)
    return found


def _joined_with(found, atom, database):
    if not found:
        return []
    # All words in found are of the same variables, so the facts can be laid out by the words that they share.
    shared = [variable for variable in variables_of([atom]) if variable in found[0]]
    fitting = {}
    for fact in database:
        words = _matched(atom, fact, ())
        if words is not None:
            fitting.setdefault(_picked(words, shared), []).append(words)
    return [{**words, **more} for words in found for more in fitting.get(_picked(words, shared), [])]


def _picked(words, variables):
    return tuple([words[variable] for variable in variables])


def _fulfills(words, condition):
    left, sign, right = condition
    return (_word(left, words) == _word(right, words)) == (sign == "=")


def _fulfilling(found, conditions):
    """The words in found that fulfill each condition."""
    return [words for words in found if all(_fulfills(words, condition) for condition in conditions)]


def _found(database, rule):
    """The words of each assignment of the rule in the database."""
    _, atoms, conditions = rule
    return _fulfilling(_joined([{}], atoms, database), conditions)
