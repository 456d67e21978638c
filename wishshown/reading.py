"""Reading the written forms of schemas, facts, views, wishes and changes.

The form of a text is told by steps: a dict from each state of the reading to the pairs of what can come there
and the state behind it. What can come is a word of the line, or NAME, NUMBER or TERM for any word of that kind, or a
newline where the line can end. Reading begins with the state "line".
"""

from wishshown.errors import BadText
from wishshown.tables import check_change, check_database, check_facts, check_schema, is_word
from wishshown.views import check_views
from wishshown.wishes import check_wish

DIGITS = "0123456789"
MOST_DIGITS = 6
VARIABLES = "01234567"

SCHEMA_STEPS = {
    "line": (("table", "name"),),
    "name": (("NAME", "width"),),
    "width": (("NUMBER", "behind width"),),
    "behind width": (("key", "key"), ("\n", "line")),
    "key": (("NUMBER", "behind key"),),
    "behind key": (("\n", "line"),),
}

FACTS_STEPS = {
    "line": (("NAME", "first word"),),
    "first word": (("NAME", "more words"),),
    "more words": (("NAME", "more words"), ("\n", "line")),
}

VIEWS_STEPS = {
    "line": (("view", "width"),),
    "later line": (("view", "width"), ("rule", "first of head")),
    "width": (("NUMBER", "behind width"),),
    "behind width": (("\n", "later line"),),
    "first of head": (("TERM", "more of head"),),
    "more of head": (("TERM", "more of head"), ("<-", "atom")),
    "atom": (("NAME", "first of atom"),),
    "first of atom": (("TERM", "more of atom"),),
    "more of atom": (("TERM", "more of atom"), (",", "atom"), (";", "condition"), ("\n", "later line")),
    "condition": (("TERM", "sign"),),
    "sign": (("=", "right side"), ("!=", "right side")),
    "right side": (("TERM", "behind condition"),),
    "behind condition": ((",", "condition"), ("\n", "later line")),
}

EDIT_STEPS = {
    "edit": (("add", "place"), ("remove", "place")),
    "place": (("NUMBER", "first word"),),
    "first word": (("NAME", "more words"),),
    "more words": (("NAME", "more words"), ("\n", "edit")),
}

CHANGE_STEPS = {
    "line": (("delete", "deleted"), ("insert", "inserted")),
    "deleted": (("NAME", "first deleted"),),
    "first deleted": (("NAME", "more deleted"),),
    "more deleted": (("NAME", "more deleted"), ("\n", "line")),
    "later line": (("insert", "inserted"),),
    "inserted": (("NAME", "first inserted"),),
    "first inserted": (("NAME", "more inserted"),),
    "more inserted": (("NAME", "more inserted"), ("\n", "later line")),
}


def lines_of(text):
    """Yield the lines of the text, without their newlines."""
    lines = text.split("\n")
    if lines[-1] == "":
        lines = lines[:-1]
    for line in lines:
        yield line


def words_of(line):
    """The words of the line, empty ones too, each behind the column of its first character."""
    found = []
    column = 1
    for word in line.split(" "):
        found.append((column, word))
        column += len(word) + 1
    return found


def read_number(word):
    """The number whose written form the word is, or None."""
    if not 1 <= len(word) <= MOST_DIGITS or not all(letter in DIGITS for letter in word):
        return None
    if word[0] == "0" and word != "0":
        return None
    return int(word)


def read_term(word):
    """The term whose written form the word is, or None."""
    if len(word) == 2 and word[0] == "?" and word[1] in VARIABLES:
        return ("var", int(word[1]))
    return ("word", word) if is_word(word) else None


def read_schema(text):
    """The schema whose written form the text is."""
    schema = [_table_of(words) for words in _read_lines(text, dict(SCHEMA_STEPS))]
    check_schema(schema)
    return schema


def read_facts(schema, text):
    """The facts whose written form the text is."""
    facts = _facts_of(text)
    check_facts(schema, facts)
    return facts


def read_database(schema, text):
    """The database whose written form the text is."""
    database = _facts_of(text)
    check_database(schema, database)
    return database


def read_views(schema, text):
    """The views whose written form the text is."""
    views = []
    for words in _read_lines(text, dict(VIEWS_STEPS)):
        if words[0] == "view":
            views.append((read_number(words[1]), []))
        else:
            views[-1][1].append(_rule_of(words))
    check_views(schema, views)
    return views


def read_wish(schema, views, text):
    """The wish whose written form the text is."""
    lines = _read_lines(text, _wish_steps(schema))
    if len(lines) < len(schema):
        raise BadText(len(lines) + 1, 1)
    may = [("delete" in words[2:], "insert" in words[2:]) for words in lines[:len(schema)]]
    edits = [(read_number(words[1]), words[0], tuple(words[2:])) for words in lines[len(schema):]]
    check_wish(schema, views, (edits, may))
    return (edits, may)


def read_change(schema, database, text):
    """The change of this database whose written form the text is."""
    lines = _read_lines(text, dict(CHANGE_STEPS))
    deleted = [_fact_of(words[1:]) for words in lines if words[0] == "delete"]
    inserted = [_fact_of(words[1:]) for words in lines if words[0] == "insert"]
    check_change(schema, database, (deleted, inserted))
    return (deleted, inserted)


def _read_lines(text, steps):
    """The words of each line of a text that has the form of the steps."""
    lines = list(lines_of(text))
    state = "line"
    for count, line in enumerate(lines):
        for column, word in words_of(line):
            state = _state_behind(steps[state], word)
            if state is None:
                raise BadText(count + 1, column)
        state = _state_behind(steps[state], "\n")
        unended = count + 1 == len(lines) and not text.endswith("\n")
        if state is None or unended:
            raise BadText(count + 1, len(line) + 1)
    return [line.split(" ") for line in lines]


def _state_behind(choices, word):
    """The state behind the word, or None if it cannot come here."""
    for kind, state in choices:
        if _is_of_kind(word, kind):
            return state
    return None


def _is_of_kind(word, kind):
    if kind == "NAME":
        return is_word(word)
    if kind == "NUMBER":
        return read_number(word) is not None
    if kind == "TERM":
        return read_term(word) is not None
    return word == kind


def _wish_steps(schema):
    """The steps of a wish, in which the line of each table has a name of its own to come."""
    steps = dict(EDIT_STEPS)
    state = "line"
    for place, table in enumerate(schema):
        behind = "edit" if place + 1 == len(schema) else f"line {place + 1}"
        steps[state] = (("may", f"name {place}"),)
        steps[f"name {place}"] = ((table[0], f"named {place}"),)
        steps[f"named {place}"] = (("delete", f"deleting {place}"), ("insert", f"inserting {place}"), ("\n", behind))
        steps[f"deleting {place}"] = (("insert", f"inserting {place}"), ("\n", behind))
        steps[f"inserting {place}"] = (("\n", behind),)
        state = behind
    return steps


def _table_of(words):
    key = read_number(words[4]) if len(words) == 5 else None
    return (words[1], read_number(words[2]), key)


def _fact_of(words):
    return (words[0], tuple(words[1:]))


def _facts_of(text):
    return [_fact_of(words) for words in _read_lines(text, dict(FACTS_STEPS))]


def _rule_of(words):
    head, behind = _parts(words[1:], "<-")
    body, *tail = _parts(behind, ";")
    atoms = [(part[0], _terms_of(part[1:])) for part in _parts(body, ",")]
    conditions = [part for words in tail for part in _parts(words, ",")]
    return (_terms_of(head), atoms, [(read_term(left), sign, read_term(right)) for left, sign, right in conditions])


def _terms_of(words):
    return tuple([read_term(word) for word in words])


def _parts(words, mark):
    """The words in parts, as they stand between the words that are the mark."""
    parts = [[]]
    for word in words:
        if word == mark:
            parts.append([])
        else:
            parts[-1].append(word)
    return parts
