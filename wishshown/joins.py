"""Terms, atoms, conditions and rules, and the assignments that fulfill them.

Inside this file the words of an assignment are a dict from variables to words.
"""

FEW = 6


def variables_of(atoms):
    """The variables of the atoms, ascending, each once."""
    return sorted({worth for _, terms in atoms for kind, worth in terms if kind == "var"})


def unify(atom, fact, assignment):
    """The assignment with words for the other variables of the atom, so that it makes the fact; or None."""
    name, terms = atom
    table, row = fact
    words = _matched(terms, row, dict(assignment)) if name == table else None
    return None if words is None else _assignment(words)


def holds(condition, assignment):
    """Tell whether the assignment fulfills the condition."""
    return _fulfills(dict(assignment), condition)


def assignments(database, rule):
    """All assignments of the rule in the database."""
    return _ordered(_found(database, rule))


def assignments_with(database, rule, fact):
    """The assignments of the rule in the database that make this fact of some atom."""
    return _ordered(words_with(rows_by_name(database), rule, fact) if fact in database else [])


def words_with(tables, rule, fact):
    """The words of the assignments that make this fact of some atom, which may come several times.

    The database, which has the fact, is told as tables are: by the rows of each name.
    """
    _, atoms, conditions = rule
    name, row = fact
    found = []
    for place, (table, terms) in enumerate(atoms):
        words = _matched(terms, row, {}) if table == name else None
        if words is not None:
            found.extend(_joined([words], atoms[:place] + atoms[place + 1:], tables))
    return _fulfilling(found, conditions)


def rows_by_name(facts):
    """For each name of a table the rows of the facts of this table."""
    tables = {}
    for name, row in facts:
        tables.setdefault(name, []).append(row)
    return tables


def row_of(rule, assignment):
    """The row of an assignment of the rule."""
    return filled(rule[0], dict(assignment))


def facts_made(atoms, assignment):
    """The facts that the assignment makes of the atoms, in the order of the atoms."""
    return facts_by(atoms, dict(assignment))


def facts_by(atoms, words):
    """The facts that the atoms make with these words of an assignment, in the order of the atoms."""
    return [(name, filled(terms, words)) for name, terms in atoms]


def witness_of(database, rule, assignment):
    """The witness of an assignment of the rule in the database."""
    made = set(facts_made(rule[1], assignment))
    return [fact for fact in database if fact in made]


def rule_rows(database, rule):
    """The rows of all assignments of the rule in the database."""
    return sorted({filled(rule[0], words) for words in _found(database, rule)})


def _assignment(words):
    return tuple(sorted(words.items()))


def _ordered(found):
    """The assignments with the words in found, ascending, each once."""
    return sorted({_assignment(words) for words in found})


def _word(term, words):
    kind, worth = term
    return words[worth] if kind == "var" else worth


def filled(terms, words):
    """The row that the terms make with these words of an assignment."""
    return tuple([_word(term, words) for term in terms])


def _matched(terms, row, words):
    """The words, with those with which the terms make the row; None if they do not agree."""
    more = {}
    for (kind, worth), word in zip(terms, row):
        if kind == "word":
            if worth != word:
                return None
        elif words.get(worth, word) != word or more.setdefault(worth, word) != word:
            return None
    return {**words, **more}


def _joined(found, atoms, tables):
    """The words in found, each with the words of all rows that fit the atoms and agree with it."""
    for name, terms in atoms:
        rows = tables.get(name, [])
        found = _joined_one_by_one(found, terms, rows) if len(found) < FEW else _joined_by_shared(found, terms, rows)
    return found


def _joined_one_by_one(found, terms, rows):
    every = [_matched(terms, row, words) for words in found for row in rows]
    return [words for words in every if words is not None]


def _joined_by_shared(found, terms, rows):
    # All words in found are of the same variables, so the rows can be laid out by the words that they share.
    shared = [variable for variable in variables_of([("", terms)]) if variable in found[0]]
    fitting = {}
    for row in rows:
        words = _matched(terms, row, {})
        if words is not None:
            fitting.setdefault(_picked(words, shared), []).append(words)
    return [{**words, **more} for words in found for more in fitting.get(_picked(words, shared), [])]


def _picked(words, variables):
    return tuple([words[variable] for variable in variables])


def _fulfills(words, condition):
    left, sign, right = condition
    return (_word(left, words) == _word(right, words)) == (sign == "=")


def _fulfilling(found, conditions):
    """The words in found that fulfill each condition."""
    return [words for words in found if all(_fulfills(words, condition) for condition in conditions)]


def _found(database, rule):
    """The words of each assignment of the rule in the database."""
    _, atoms, conditions = rule
    return _fulfilling(_joined([{}], atoms, rows_by_name(database)), conditions)
