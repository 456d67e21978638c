"""What several tests need: a check of what a call leaves alone, and small data made by a fixed rule."""

import copy
import itertools
import random

X, Y, Z, U = ("var", 0), ("var", 1), ("var", 2), ("var", 3)


def spoil(value):
    """Change every list in the value."""
    if isinstance(value, (list, tuple)):
        for each in value:
            spoil(each)
    if isinstance(value, list):
        value.append("spoiled")
        value.reverse()


def pure(test, function, *args, **named):
    """The answer of the call, after a check that it leaves its arguments alone and that its answer is new."""
    before = copy.deepcopy((args, named))
    answer = function(*args, **named)
    told = copy.deepcopy(answer)
    test.assertEqual((args, named), before, "an argument was modified")
    spoil(answer)
    test.assertEqual((args, named), before, "the answer shares a list with an argument")
    test.assertEqual(function(*args, **named), told, "a later answer was changed")
    return told


def words_for(count):
    return [f"w{place}" for place in range(count)]


def all_facts(schema, words):
    return [(name, row) for name, width, _ in schema for row in itertools.product(words, repeat=width)]


def made(atom, words):
    """The fact that the words, a dict, make of the atom."""
    name, terms = atom
    return (name, tuple(words[worth] if kind == "var" else worth for kind, worth in terms))


def plain_assignments(facts, rule):
    """The assignments of the rule, by trying all words for all variables."""
    head, atoms, conditions = rule
    variables = sorted({worth for _, terms in atoms for kind, worth in terms if kind == "var"})
    words = sorted({word for _, row in facts for word in row})
    found = []
    for chosen in itertools.product(words, repeat=len(variables)):
        given = dict(zip(variables, chosen))
        sides = [(made(("", (left,)), given), sign, made(("", (right,)), given)) for left, sign, right in conditions]
        right = all((left == other) == (sign == "=") for left, sign, other in sides)
        if right and all(made(atom, given) in facts for atom in atoms):
            found.append(tuple(zip(variables, chosen)))
    return sorted(found)


def plain_row(rule, assignment):
    return made(("", rule[0]), dict(assignment))[1]


def plain_view_rows(facts, view):
    return sorted({plain_row(rule, each) for rule in view[1] for each in plain_assignments(facts, rule)})


class Maker:
    """Makes schemas, facts and rules, always the same ones for the same seed."""

    def __init__(self, seed):
        self.random = random.Random(seed)

    def schema(self):
        names = self.random.sample(["b", "c", "a", "d"], self.random.randint(1, 3))
        return [(name, width, self.random.choice([None] + list(range(1, width + 1))))
                for name in names for width in [self.random.randint(1, 2)]]

    def facts(self, schema, words, most):
        every = all_facts(schema, words)
        chosen = self.random.sample(every, min(len(every), self.random.randint(0, most)))
        order = [table[0] for table in schema]
        return sorted(chosen, key=lambda fact: (order.index(fact[0]), fact[1]))

    def holding(self, schema, words, most):
        """Facts in which the keys hold."""
        keys = {name: key for name, _, key in schema}
        held = {}
        for name, row in self.facts(schema, words, most):
            key = keys[name]
            held.setdefault((name, row if key is None else row[:key]), (name, row))
        return list(held.values())

    def term(self, numbers, words):
        if self.random.random() < 0.2:
            return ("word", self.random.choice(words))
        return ("var", self.random.choice(numbers))

    def rule(self, schema, words, width):
        while True:
            atoms = []
            for _ in range(self.random.randint(1, 3)):
                name, columns, _ = self.random.choice(schema)
                atoms.append((name, tuple(self.term([0, 2, 5], words) for _ in range(columns))))
            bound = sorted({worth for _, terms in atoms for kind, worth in terms if kind == "var"})
            if bound:
                break
        head = tuple(self.term(bound, words) for _ in range(width))
        conditions = [(self.term(bound, words), self.random.choice(["=", "!="]), self.term(bound, words))
                      for _ in range(self.random.choice([0, 0, 1, 2]))]
        return (head, atoms, conditions)

    def view(self, schema, words):
        width = self.random.randint(1, 2)
        return (width, [self.rule(schema, words, width) for _ in range(self.random.randint(1, 3))])

    def change(self, schema, facts, words, most):
        deleted = [fact for fact in facts if self.random.random() < 0.3]
        inserted = [fact for fact in self.facts(schema, words, most) if fact not in facts]
        return (deleted, inserted)
