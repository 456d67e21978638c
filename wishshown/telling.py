"""Words in use that make a difference at a place where a change can put them.

The words of a column are compared with those of other columns only through the variables of the rules. The places of
words (columns of tables, columns of views, and variables of rules) fall apart into kinds, such that words at places
of different kinds are never compared. If a change has at places of one kind a word that stands there neither in the
database nor in a rule nor in a wanted row, a fresh word does the same there.
"""

from wishshown.joins import variables_of
from wishshown.wishes import wanted


def telling_words(task):
    """For each rule, by the places of its view and of itself, and each variable of it: its telling words, ascending."""
    _, database, views, _ = task
    spots = [(place, number) for place, (_, rules) in enumerate(views) for number in range(len(rules))]
    links = []
    for place, number in spots:
        links.extend(_links_of(views[place][1][number], (place, number)))
    for name, row in database:
        links.extend([(("column", name, column), ("word", word)) for column, word in enumerate(row)])
    for place, rows in enumerate(wanted(task)):
        links.extend([(("shown", place, column), ("word", word)) for row in rows for column, word in enumerate(row)])
    kinds = _kinds_of(links)
    words = _words_by_kind(links, kinds)
    return {
        (place, number): {
            variable: words[kinds[("of rule", place, number, variable)]]
            for variable in variables_of(views[place][1][number][1])
        }
        for place, number in spots
    }


def _links_of(rule, spot):
    """Pairs of places that are of the same kind, and of places with the words of the rule that stand there."""
    head, atoms, conditions = rule
    place, number = spot
    links = [(("shown", place, column), _end_of(term, spot)) for column, term in enumerate(head)]
    for name, terms in atoms:
        links.extend([(("column", name, column), _end_of(term, spot)) for column, term in enumerate(terms)])
    for left, _, right in conditions:
        # Two words that are compared with each other tell nothing of any place.
        pair = (_end_of(left, spot), _end_of(right, spot))
        links.extend([each for each in (pair, pair[::-1]) if each[0][0] != "word"])
    return links


def _end_of(term, spot):
    """What a term stands for in a link: a place, or a word."""
    kind, worth = term
    return ("of rule", *spot, worth) if kind == "var" else ("word", worth)


def _kinds_of(links):
    """For each place a number that it shares with the places of its kind alone."""
    kinds = {}
    for link in links:
        for end in link:
            if end[0] != "word":
                kinds.setdefault(end, len(kinds))
    for first, second in links:
        if second[0] != "word" and kinds[first] != kinds[second]:
            old, new = kinds[second], kinds[first]
            kinds = {end: new if kind == old else kind for end, kind in kinds.items()}
    return kinds


def _words_by_kind(links, kinds):
    """For each kind the words that stand at its places, ascending."""
    found = {kind: {} for kind in kinds.values()}
    for first, second in links:
        if second[0] == "word":
            found[kinds[first]][second[1]] = True
    return {kind: sorted(list(found[kind])) for kind in found}
