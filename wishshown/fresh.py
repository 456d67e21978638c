"""Words in use, fresh words, and changes that differ in their other words alone."""

from wishshown.tables import ascending, place_of, words_of


def words_in_use(task):
    """The words in use in the task."""
    _, database, views, (edits, _) = task
    terms = [term for _, rules in views for rule in rules for term in _terms_of(rule)]
    words = [worth for kind, worth in terms if kind == "word"]
    words.extend([word for _, _, row in edits for word in row])
    return sorted(set(words + words_of(database)))


def _terms_of(rule):
    head, atoms, conditions = rule
    terms = list(head)
    for _, more in atoms:
        terms.extend(list(more))
    for left, _, right in conditions:
        terms.extend([left, right])
    return terms


def fresh_words(used, count):
    """The first fresh words."""
    barred = set(used)
    found = []
    number = 0
    while len(found) < count:
        word = f"a{number}"
        if word not in barred:
            found.append(word)
        number += 1
    return found


def strange_words(used, facts):
    """The words of the facts that are not in use."""
    known = set(used)
    return [word for word in words_of(facts) if word not in known]


def least_form(task, change):
    """The change that is alike to this one and has the form in which changes are listed."""
    deleted, inserted = change
    schema, used = task[0], words_in_use(task)
    strange = strange_words(used, inserted)
    # Rows are compared as Python compares them, so that "a10" comes ahead of "a2".
    names = sorted(fresh_words(used, len(strange)))
    pairs = [(place_of(schema, name), row) for name, row in inserted]
    naming = _least_naming(pairs, strange, names)
    renamed = [(name, tuple([naming.get(word, word) for word in row])) for name, row in inserted]
    return (list(deleted), ascending(schema, renamed))


def _least_naming(pairs, strange, names):
    """The new names of the strange words with which the ascending list of the pairs is the least one."""
    earlier = _earlier_twins(pairs, strange)
    begun = [({}, pairs)]
    # The ascending list is made from its beginning on, and all namings with the least beginning are kept. Names are
    # given in their order, each to the first word that needs one: so the next pair is the least that it can be.
    for _ in pairs:
        longer = {}
        for naming, rest in begun:
            for place, pair in enumerate(rest):
                image, named = _named(pair, naming, names, earlier)
                if named is not None:
                    # Of equal namings with equal images one is enough.
                    longer[(image, tuple(named))] = (named, rest[:place] + rest[place + 1:])
        least, _ = min(list(longer))
        begun = [longer[key] for key in longer if key[0] == least]
    return begun[0][0]


def _named(pair, naming, names, earlier):
    """The pair with new names, and the naming with those that it needs besides; the latter is None if not wanted."""
    table, row = pair
    named = dict(naming)
    for word in row:
        if word in earlier and word not in named:
            if not all(twin in named for twin in earlier[word]):
                return (None, None)
            named[word] = names[len(named)]
    return ((table, tuple([named.get(word, word) for word in row])), named)


def _earlier_twins(pairs, strange):
    """For each strange word the ones before it that can change places with it without changing the pairs.

    Which of such words comes first makes no difference, so only one of these orders is looked at.
    """
    return {word: [twin for twin in strange[:count] if _are_twins(pairs, twin, word)]
            for count, word in enumerate(strange)}


def _are_twins(pairs, first, second):
    places = {first: second, second: first}
    return {(table, tuple([places.get(word, word) for word in row])) for table, row in pairs} == set(pairs)


def is_renamed_part(used, facts, others):
    """Tell whether the facts are some of the others if their words that are not in use are renamed suitably.

    They are renamed one to one, to words that are not in use.
    """
    own, theirs = strange_words(used, facts), strange_words(used, others)
    waiting = [(0, {})]
    while waiting:
        count, naming = waiting.pop()
        if count == len(facts):
            return True
        for other in others:
            longer = _naming_onto(facts[count], other, naming, own, theirs)
            if longer is not None:
                waiting.append((count + 1, longer))
    return False


def _naming_onto(fact, other, naming, own, theirs):
    """The naming with the names that make the other fact of this one; None if there are none."""
    if fact[0] != other[0]:
        return None
    longer = dict(naming)
    for word, name in zip(fact[1], other[1]):
        if word in own and name in theirs:
            if longer.setdefault(word, name) != name:
                return None
        elif word != name:
            return None
    return longer if len(set(list(longer.values()))) == len(longer) else None
