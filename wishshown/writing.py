"""The written forms of schemas, facts, views, wishes and changes."""


def write_term(term):
    """The written form of the term."""
    kind, worth = term
    return f"?{worth}" if kind == "var" else worth


def write_fact(fact):
    """The words of the fact with one space between them."""
    name, row = fact
    return " ".join([name, *row])


def write_rule(rule):
    """The line of the rule, without a newline."""
    head, atoms, conditions = rule
    body = " , ".join([f"{name} {_write_terms(terms)}" for name, terms in atoms])
    line = f"rule {_write_terms(head)} <- {body}"
    if not conditions:
        return line
    tail = " , ".join([f"{write_term(left)} {sign} {write_term(right)}" for left, sign, right in conditions])
    return f"{line} ; {tail}"


def write_schema(schema):
    """The written form of the schema."""
    return _text([_table_line(table) for table in schema])


def write_facts(facts):
    """The written form of the facts."""
    return _text([write_fact(fact) for fact in facts])


def write_views(views):
    """The written form of the views."""
    lines = []
    for width, rules in views:
        lines.append(f"view {width}")
        lines.extend([write_rule(rule) for rule in rules])
    return _text(lines)


def write_wish(schema, wish):
    """The written form of a wish for views over the schema."""
    edits, may = wish
    lines = [_may_line(table[0], pair) for table, pair in zip(schema, may)]
    lines.extend([" ".join([deed, str(place), *row]) for place, deed, row in edits])
    return _text(lines)


def write_change(change):
    """The written form of the change."""
    deleted, inserted = change
    lines = [f"delete {write_fact(fact)}" for fact in deleted]
    lines.extend([f"insert {write_fact(fact)}" for fact in inserted])
    return _text(lines)


def _text(lines):
    return "".join([f"{line}\n" for line in lines])


def _write_terms(terms):
    return " ".join([write_term(term) for term in terms])


def _table_line(table):
    name, width, key = table
    return f"table {name} {width}" if key is None else f"table {name} {width} key {key}"


def _may_line(name, pair):
    may_delete, may_insert = pair
    words = ["may", name]
    if may_delete:
        words.append("delete")
    if may_insert:
        words.append("insert")
    return " ".join(words)
