"""Schemas, facts, databases and changes of them."""

from wishshown.errors import (
    AlreadyThere, BadKey, BadName, BadRow, BadSize, BadWidth, KeyBroken, NotAscending, NotThere, UnknownTable,
)

LETTERS = "abcdefghijklmnopqrstuvwxyz0123456789"
MOST_LETTERS = 12
MOST_TABLES = 4
MOST_COLUMNS = 4
MOST_FACTS = 24


def is_word(value):
    """Tell whether the value, which may be any, is a word."""
    if not isinstance(value, str) or not 1 <= len(value) <= MOST_LETTERS:
        return False
    return all(letter in LETTERS for letter in value)


def is_whole(value, low, high):
    """Tell whether the value, which may be any, is a whole number from low to high."""
    return isinstance(value, int) and not isinstance(value, bool) and low <= value <= high


def check_schema(schema):
    """Raise the first error that is due for the schema."""
    if not 1 <= len(schema) <= MOST_TABLES:
        raise BadSize()
    names = []
    for name, width, key in schema:
        if not is_word(name):
            raise BadName()
        if not is_whole(width, 1, MOST_COLUMNS):
            raise BadWidth()
        if key is not None and not is_whole(key, 1, width):
            raise BadKey()
        if name in names:
            raise BadName()
        names.append(name)


def place_of(schema, name):
    """The place of the table with this name, which may be any value; None if there is none."""
    # The names are compared one by one: a value that is no word need not fit into a dict.
    for place, table in enumerate(schema):
        if table[0] == name:
            return place
    return None


def is_row(value, width):
    """Tell whether a tuple is a row of this width."""
    return len(value) == width and all(is_word(word) for word in value)


def check_facts(schema, facts):
    """Raise the first error that is due for the facts."""
    before = None
    for name, row in facts:
        place = place_of(schema, name)
        if place is None:
            raise UnknownTable()
        if not is_row(row, schema[place][1]):
            raise BadRow()
        if before is not None and (place, row) <= before:
            raise NotAscending()
        before = (place, row)


def check_database(schema, database):
    """Raise the first error that is due for the database."""
    if len(database) > MOST_FACTS:
        raise BadSize()
    check_facts(schema, database)
    clashes = key_clashes(schema, database)
    if clashes:
        first, second = clashes[0]
        raise KeyBroken(first, second)


def check_change(schema, database, change):
    """Raise the first error that is due for the change."""
    deleted, inserted = change
    check_facts(schema, deleted)
    check_facts(schema, inserted)
    standing = set(database)
    for fact in deleted:
        if fact not in standing:
            raise NotThere(fact)
    for fact in inserted:
        if fact in standing:
            raise AlreadyThere(fact)


def ascending(schema, facts):
    """The facts in ascending order, each once."""
    ordered = sorted({(place_of(schema, name), row) for name, row in facts})
    return [(schema[place][0], row) for place, row in ordered]


def rows_of(database, name):
    """The rows of the table with this name, ascending."""
    return sorted({row for table, row in database if table == name})


def key_of(schema, fact):
    """The table's name and the words in the key columns of the fact; None if the table has no key."""
    name, row = fact
    key = schema[place_of(schema, name)][2]
    return None if key is None else (name, row[:key])


def key_clashes(schema, facts):
    """For each fact with the key of a different earlier one, the earliest such fact and this fact."""
    earliest = {}
    clashes = []
    for fact in facts:
        key = key_of(schema, fact)
        if key is not None and earliest.setdefault(key, fact) != fact:
            clashes.append((earliest[key], fact))
    return clashes


def keys_hold(schema, facts):
    """Tell whether no two different ones of the facts have the same key."""
    return len(key_clashes(schema, facts)) == 0


def same_key(schema, first, second):
    """Tell whether the two facts have the same key."""
    key = key_of(schema, first)
    return key is not None and key == key_of(schema, second)


def without(these, others):
    """Those of these facts or rows that are none of the others, in their order."""
    left_out = set(others)
    return [each for each in these if each not in left_out]


def after(schema, database, change):
    """The database after a change that fits it."""
    deleted, inserted = change
    return ascending(schema, without(database, deleted) + inserted)


def inverse(change):
    """The change that takes this one back."""
    deleted, inserted = change
    return (list(inserted), list(deleted))


def compose(schema, database, first, second):
    """The change that does the first one and then the second one, which fits the database after it."""
    between = after(schema, database, first)
    return difference(schema, database, after(schema, between, second))


def difference(schema, database, other):
    """The change after which the database is the other one."""
    return (ascending(schema, without(database, other)), ascending(schema, without(other, database)))


def words_of(facts):
    """All words in the rows of the facts, ascending, each once."""
    return sorted({word for _, row in facts for word in row})
