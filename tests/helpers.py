"""What several tests need: a check of what a call leaves alone, and small data made by a fixed rule."""

import copy
import itertools
import random

from wishshown.fresh import fresh_words, words_in_use
from wishshown.tables import ascending, same_key
from wishshown.wishes import does, wanted, wish_of

X, Y, Z, U = ("var", 0), ("var", 1), ("var", 2), ("var", 3)
ANN = ("word", "ann")


def spoil(value):
    """Change every list in the value."""
    if isinstance(value, (list, tuple)):
        for each in value:
            spoil(each)
    if isinstance(value, list):
        value.append("spoiled")
        value.reverse()


def pure(test, function, *args, **named):
    """The answer of the call, after a check that it leaves its arguments alone and that its answer is new."""
    before = copy.deepcopy((args, named))
    answer = function(*args, **named)
    told = copy.deepcopy(answer)
    test.assertEqual((args, named), before, "an argument was modified")
    spoil(answer)
    test.assertEqual((args, named), before, "the answer shares a list with an argument")
    test.assertEqual(function(*args, **named), told, "a later answer was changed")
    return told


def words_for(count):
    return [f"w{place}" for place in range(count)]


def all_facts(schema, words):
    return [(name, row) for name, width, _ in schema for row in itertools.product(words, repeat=width)]


def made(atom, words):
    """The fact that the words, a dict, make of the atom."""
    name, terms = atom
    return (name, tuple(words[worth] if kind == "var" else worth for kind, worth in terms))


def plain_assignments(facts, rule):
    """The assignments of the rule, by trying all words for all variables."""
    head, atoms, conditions = rule
    variables = sorted({worth for _, terms in atoms for kind, worth in terms if kind == "var"})
    words = sorted({word for _, row in facts for word in row})
    found = []
    for chosen in itertools.product(words, repeat=len(variables)):
        given = dict(zip(variables, chosen))
        sides = [(made(("", (left,)), given), sign, made(("", (right,)), given)) for left, sign, right in conditions]
        right = all((left == other) == (sign == "=") for left, sign, other in sides)
        if right and all(made(atom, given) in facts for atom in atoms):
            found.append(tuple(zip(variables, chosen)))
    return sorted(found)


def plain_row(rule, assignment):
    return made(("", rule[0]), dict(assignment))[1]


def plain_view_rows(facts, view):
    return sorted({plain_row(rule, each) for rule in view[1] for each in plain_assignments(facts, rule)})


class Maker:
    """Makes schemas, facts and rules, always the same ones for the same seed."""

    def __init__(self, seed):
        self.random = random.Random(seed)

    def schema(self):
        names = self.random.sample(["b", "c", "a", "d"], self.random.randint(1, 3))
        return [(name, width, self.random.choice([None] + list(range(1, width + 1))))
                for name in names for width in [self.random.randint(1, 2)]]

    def facts(self, schema, words, most):
        every = all_facts(schema, words)
        chosen = self.random.sample(every, min(len(every), self.random.randint(0, most)))
        order = [table[0] for table in schema]
        return sorted(chosen, key=lambda fact: (order.index(fact[0]), fact[1]))

    def holding(self, schema, words, most):
        """Facts in which the keys hold."""
        keys = {name: key for name, _, key in schema}
        held = {}
        for name, row in self.facts(schema, words, most):
            key = keys[name]
            held.setdefault((name, row if key is None else row[:key]), (name, row))
        return list(held.values())

    def term(self, numbers, words):
        if self.random.random() < 0.2:
            return ("word", self.random.choice(words))
        return ("var", self.random.choice(numbers))

    def rule(self, schema, words, width):
        while True:
            atoms = []
            for _ in range(self.random.randint(1, 3)):
                name, columns, _ = self.random.choice(schema)
                atoms.append((name, tuple(self.term([0, 2, 5], words) for _ in range(columns))))
            bound = sorted({worth for _, terms in atoms for kind, worth in terms if kind == "var"})
            if bound:
                break
        head = tuple(self.term(bound, words) for _ in range(width))
        conditions = [(self.term(bound, words), self.random.choice(["=", "!="]), self.term(bound, words))
                      for _ in range(self.random.choice([0, 0, 1, 2]))]
        return (head, atoms, conditions)

    def view(self, schema, words):
        width = self.random.randint(1, 2)
        return (width, [self.rule(schema, words, width) for _ in range(self.random.randint(1, 3))])

    def change(self, schema, facts, words, most):
        deleted = [fact for fact in facts if self.random.random() < 0.3]
        inserted = [fact for fact in self.facts(schema, words, most) if fact not in facts]
        return (deleted, inserted)


def plain_standing(task, case):
    return ascending(task[0], [fact for fact in task[1] if fact not in case[0]] + case[1])


def plain_ways(task, case, rule, row):
    """The ways of the rule to have the row, by trying all words for all variables (point 44)."""
    head, atoms, conditions = rule
    variables = sorted({worth for _, terms in atoms for kind, worth in terms if kind == "var"})
    used = words_in_use(task)
    count = len({word for _, words in case[1] for word in words if word not in used})
    words = used + fresh_words(used, count + len(variables))
    last = len(used) + count
    found = []
    for chosen in itertools.product(range(len(words)), repeat=len(variables)):
        # The number of a further fresh word is at most one more than those before it.
        known = [max([last - 1] + list(chosen[:place])) for place in range(len(chosen))]
        given = dict(zip(variables, [words[number] for number in chosen]))
        right = all(number <= most + 1 for number, most in zip(chosen, known))
        sides = [(made(("", (left,)), given), sign, made(("", (right,)), given)) for left, sign, right in conditions]
        if right and made(("", head), given)[1] == row and all((a == b) == (sign == "=") for a, sign, b in sides):
            found.append(tuple(given.items()))
    return found


def plain_children(task, case, node):
    """The children of the node, word by word as points 42 to 45 tell them."""
    schema, database, views, (_, may) = task
    gone, must = case
    standing = plain_standing(task, case)
    may = {table[0]: pair for table, pair in zip(schema, may)}
    kind, place, row = node[:3]
    if (row in wanted(task)[place]) != (kind == "missing"):
        return None
    if kind == "extra":
        found = [[made(atom, dict(each)) for atom in rule[1]] for rule in views[place][1]
                 for each in plain_assignments(standing, rule) if plain_row(rule, each) == row]
        if node[3] not in [ascending(schema, facts) for facts in found]:
            return None
        return [(ascending(schema, gone + [fact]), ascending(schema, must + node[3][:count]))
                for count, fact in enumerate(node[3]) if fact not in must and may[fact[0]][0]]
    children = []
    for rule in views[place][1]:
        for way in plain_ways(task, case, rule, row):
            facts = [made(atom, dict(way)) for atom in rule[1]]
            more = ascending(schema, must + facts)
            rivals = [fact for fact in standing if any(same_key(schema, fact, each) for each in facts)]
            add = [fact for fact in rivals if fact not in more]
            if not (any(fact in gone for fact in facts)
                    or any(fact not in database + must and not may[fact[0]][1] for fact in facts)
                    or any(fact != each and same_key(schema, fact, each) for fact in facts for each in facts + must)
                    or any(not may[fact[0]][0] for fact in add)):
                children.append((ascending(schema, gone + add), more))
    return children


def small_changes(task, most, fresh):
    """All changes with at most so many facts that do the wish, with words in use and so many fresh words."""
    schema, database, _, (_, may) = task
    may = {table[0]: pair for table, pair in zip(schema, may)}
    used = words_in_use(task)
    deleted = [fact for fact in database if may[fact[0]][0]]
    new = [fact for fact in all_facts(schema, used + fresh_words(used, fresh)) if fact not in database]
    pool = [(0, fact) for fact in deleted] + [(1, fact) for fact in new if may[fact[0]][1]]
    for count in range(most + 1):
        for chosen in itertools.combinations(pool, count):
            change = tuple(ascending(schema, [fact for kind, fact in chosen if kind == side]) for side in (0, 1))
            if does(task, change):
                yield change


def made_task(seed, words=("a", "b"), most=4, views=2):
    """A task with a wish that some change does, or with any wish, by turns."""
    maker = Maker(seed)
    words = list(words)
    schema = maker.schema()
    facts = maker.holding(schema, words, most)
    views = [maker.view(schema, words) for _ in range(maker.random.randint(1, views))]
    may = [(maker.random.random() < 0.85, maker.random.random() < 0.85) for _ in schema]
    if maker.random.random() < 0.5:
        edits, _ = wish_of(schema, facts, views, maker.change(schema, facts, words + ["n"], 3), may=may)
        return (schema, facts, views, (edits, may))
    edits = {}
    for _ in range(maker.random.randint(0, 3)):
        place = maker.random.randrange(len(views))
        rows = plain_view_rows(facts, views[place])
        row = tuple(maker.random.choice(words + ["n"]) for _ in range(views[place][0]))
        if rows and maker.random.random() < 0.6:
            edits.setdefault((place, maker.random.choice(rows)), "remove")
        else:
            edits.setdefault((place, row), maker.random.choice(["add", "remove"]))
    return (schema, facts, views, ([(place, deed, row) for (place, row), deed in edits.items()], may))


def plain_rule(maker, schema):
    """A plain rule over some of the tables, with words in its atoms and its head at times."""
    chance = maker.random
    tables = chance.sample(schema, chance.randint(1, min(3, len(schema))))
    atoms = [(name, tuple(ANN if chance.random() < 0.15 else ("var", chance.choice([0, 2, 5])) for _ in range(width)))
             for name, width, _ in tables]
    shown = sorted({term for _, terms in atoms for term in terms if term[0] == "var"})
    chance.shuffle(shown)
    head = shown + [ANN] * (chance.random() < 0.2) + shown[:chance.randint(0, 1)]
    return (tuple(head or [ANN]), atoms, [])


def plain_closure(schema, rule, variables):
    """What point 66 says, one atom at a time."""
    keys = {name: key for name, _, key in schema}
    known = set(variables)
    while True:
        more = set(known)
        for name, terms in rule[1]:
            if keys[name] is not None and all(n in known for kind, n in terms[:keys[name]] if kind == "var"):
                more |= {n for kind, n in terms if kind == "var"}
        if more == known:
            return sorted(known)
        known = more
