import unittest

from helpers import ANN, X, Y, Z, Maker, plain_view_rows, pure
from wishshown import minimal
from wishshown.containing import contains, equal_views
from wishshown.minimal import can_leave_atom, can_leave_rule, least_view

SCHEMA = [("box", 2, None), ("tag", 1, 1)]
STARTS = ((X,), [("box", (X, Y))], [])
LOOPS = ((X,), [("box", (X, X))], [])
TWICE = ((X,), [("box", (X, Y)), ("box", (X, Z))], [])
TAGGED = ((X,), [("box", (X, Y)), ("tag", (X,))], [])


def plain_can_leave_atom(schema, view, place, atom):
    """What point 76 says."""
    width, rules = view
    head, atoms, conditions = rules[place]
    others = [each for at, each in enumerate(atoms) if at != atom]
    bound = [term for _, terms in others for term in terms]
    asked = [term for term in head] + [term for left, _, right in conditions for term in (left, right)]
    if not others or any(term not in bound for term in asked if term[0] == "var"):
        return False
    return contains(schema, view, (width, [(head, others, conditions)]))


def plain_can_leave_rule(schema, view, place):
    width, rules = view
    others = [each for at, each in enumerate(rules) if at != place]
    return bool(others) and contains(schema, (width, others), (width, [rules[place]]))


def plain_least_view(schema, view):
    """What point 77 says, with lists of what is left."""
    width, rules = view
    rules = [(head, list(atoms), conditions) for head, atoms, conditions in rules]
    for place, rule in enumerate(rules):
        gone = 0
        for number in range(len(rule[1])):
            if plain_can_leave_atom(schema, (width, rules), place, number - gone):
                atoms = rules[place][1]
                rules[place] = (rule[0], [each for at, each in enumerate(atoms) if at != number - gone], rule[2])
                gone += 1
    left = list(range(len(rules)))
    for place in range(len(rules)):
        if plain_can_leave_rule(schema, (width, [rules[each] for each in left]), left.index(place)):
            left.remove(place)
    return (width, [rules[each] for each in left])


def made_view(seed):
    maker = Maker(seed)
    chance = maker.random
    schema = maker.schema()
    width = chance.randint(1, 2)
    rules = [maker.rule(schema, ["a", "b"], width) for _ in range(chance.randint(1, 3))]
    head, atoms, conditions = rules[0]
    if chance.random() < 0.8 and len(atoms) < 3:
        # An atom that stands twice, once with another variable.
        name, terms = atoms[0]
        more = (name, tuple(chance.choice([term, ("var", 7)]) for term in terms))
        rules[0] = (head, chance.choice([atoms + [more], [more] + atoms]), conditions)
    if chance.random() < 0.5:
        head, atoms, conditions = rules[-1]
        rules = ([(head, atoms[::-1], conditions)] + rules)[:3]
    return (schema, (width, rules))


class LeaveAtom(unittest.TestCase):
    def told(self, rules, place, atom):
        view = (len(rules[0][0]), rules)
        answer = pure(self, can_leave_atom, SCHEMA, view, place, atom=atom)
        self.assertIs(answer, plain_can_leave_atom(SCHEMA, view, place, atom))
        return answer

    def test_one_atom(self):
        self.assertIs(self.told([STARTS], 0, 0), False)
        self.assertIs(self.told([STARTS, STARTS], 1, 0), False)
        self.assertIs(self.told([((ANN,), [("tag", (X,))], [])], 0, 0), False)

    def test_several_atoms(self):
        self.assertIs(self.told([TWICE], 0, 0), True)
        self.assertIs(self.told([TWICE], 0, 1), True)
        self.assertIs(self.told([TAGGED], 0, 0), False)
        self.assertIs(self.told([TAGGED], 0, 1), False)
        path = ((X,), [("box", (X, Y)), ("box", (Y, Z))], [])
        self.assertIs(self.told([path], 0, 0), False)
        self.assertIs(self.told([path], 0, 1), False)
        three = ((X,), [("box", (X, Y)), ("tag", (X,)), ("box", (Z, Y))], [])
        self.assertEqual([self.told([three], 0, atom) for atom in range(3)], [False, False, True])

    def test_a_variable_of_the_head_or_of_a_condition(self):
        rule = ((X, Y), [("box", (X, X)), ("box", (X, Y))], [])
        self.assertEqual([self.told([rule], 0, atom) for atom in range(2)], [False, False])
        rule = ((X, Z), [("box", (X, Y)), ("box", (X, Z))], [])
        self.assertEqual([self.told([rule], 0, atom) for atom in range(2)], [True, False])
        # Without the condition the second atom says nothing new.
        rule = ((X,), [("box", (X, Y)), ("box", (X, Z))], [(Z, "!=", Y)])
        self.assertEqual([self.told([rule], 0, atom) for atom in range(2)], [False, False])
        rule = ((X,), [("box", (X, Y)), ("box", (X, Z))], [(Y, "!=", X)])
        self.assertEqual([self.told([rule], 0, atom) for atom in range(2)], [False, True])

    def test_several_rules(self):
        # The other rule has all the rows that the rule gets without its tag.
        self.assertIs(self.told([TAGGED, STARTS], 0, 1), True)
        self.assertIs(self.told([TAGGED, STARTS], 0, 0), False)
        self.assertIs(self.told([STARTS, TAGGED], 1, 1), True)
        self.assertIs(self.told([TAGGED, LOOPS], 0, 1), False)
        alone = ((X,), [("tag", (X,))], [])
        self.assertEqual([self.told([TAGGED, alone], 0, atom) for atom in range(2)], [True, False])

    def test_the_same_atom_twice(self):
        rule = ((X,), [("tag", (X,)), ("tag", (X,))], [])
        self.assertEqual([self.told([rule], 0, atom) for atom in range(2)], [True, True])

    def test_made_views(self):
        left_out = 0
        for seed in range(200):
            schema, view = made_view(seed)
            for place, (_, atoms, _) in enumerate(view[1]):
                for atom in range(len(atoms)):
                    answer = can_leave_atom(schema, view, place, atom=atom)
                    self.assertIs(answer, plain_can_leave_atom(schema, view, place, atom))
                    left_out += answer
        self.assertGreater(left_out, 50)


class LeaveRule(unittest.TestCase):
    def told(self, rules, place):
        answer = pure(self, can_leave_rule, SCHEMA, (len(rules[0][0]), rules), place)
        self.assertIs(answer, plain_can_leave_rule(SCHEMA, (len(rules[0][0]), rules), place))
        return answer

    def test_one_rule(self):
        for rule in [STARTS, TWICE, ((X,), [("tag", (X,))], [(X, "!=", X)])]:
            self.assertIs(self.told([rule], 0), False)

    def test_several_rules(self):
        self.assertEqual([self.told([STARTS, LOOPS], place) for place in range(2)], [False, True])
        self.assertEqual([self.told([LOOPS, STARTS, TAGGED], place) for place in range(3)], [True, False, True])
        self.assertEqual([self.told([STARTS, TWICE], place) for place in range(2)], [True, True])
        self.assertEqual([self.told([LOOPS, TAGGED], place) for place in range(2)], [False, False])

    def test_a_rule_that_only_the_others_together_have(self):
        alike = ((X,), [("box", (X, Y))], [(X, "=", Y)])
        apart = ((X,), [("box", (X, Y))], [(X, "!=", Y)])
        self.assertEqual([self.told([alike, STARTS, apart], place) for place in range(3)], [True, True, True])
        self.assertEqual([self.told([alike, apart], place) for place in range(2)], [False, False])

    def test_a_rule_without_rows(self):
        never = ((X,), [("box", (X, Y))], [(X, "!=", X)])
        self.assertEqual([self.told([never, LOOPS], place) for place in range(2)], [True, False])

    def test_made_views(self):
        left_out = 0
        for seed in range(200):
            schema, view = made_view(seed)
            for place in range(len(view[1])):
                answer = can_leave_rule(schema, view, place)
                self.assertIs(answer, plain_can_leave_rule(schema, view, place))
                left_out += answer
        self.assertGreater(left_out, 30)


class LeastView(unittest.TestCase):
    def check(self, rules, told):
        view = (len(rules[0][0]), rules)
        self.assertEqual(pure(self, least_view, SCHEMA, view), (view[0], told))

    def test_a_view_in_its_least_form(self):
        for rules in [[STARTS], [TAGGED], [LOOPS, TAGGED], [((X,), [("box", (X, Y)), ("box", (Y, Z))], [])],
                      [((X,), [("box", (X, Y)), ("box", (X, Z))], [(Y, "!=", Z)])],
                      [((ANN,), [("tag", (ANN,))], [(ANN, "=", ANN)])]]:
            self.check(rules, rules)

    def test_atoms_that_are_not_needed(self):
        self.check([TWICE], [((X,), [("box", (X, Z))], [])])
        self.check([((X,), [("box", (X, Z)), ("box", (X, X)), ("box", (Y, X))], [])], [LOOPS])
        self.check([((X,), [("tag", (X,)), ("tag", (X,)), ("tag", (X,))], [])], [((X,), [("tag", (X,))], [])])
        self.check([((X,), [("box", (X, Y)), ("tag", (X,)), ("tag", (Z,))], [])], [TAGGED])

    def test_rules_that_are_not_needed(self):
        self.check([LOOPS, STARTS], [STARTS])
        self.check([STARTS, LOOPS], [STARTS])
        self.check([STARTS, STARTS, STARTS], [STARTS])
        never = ((X,), [("box", (X, Y))], [(X, "!=", X)])
        self.check([never, LOOPS], [LOOPS])
        self.check([never, never], [never])

    def test_atoms_are_left_out_ahead_of_rules(self):
        # The tag is left out as the other rule has the rows without it; then the rules are the same.
        self.check([TAGGED, STARTS], [STARTS])
        self.check([((X,), [("box", (X, Z)), ("tag", (X,))], []), STARTS], [STARTS])
        self.check([STARTS, ((X,), [("box", (X, Z)), ("tag", (X,))], [])], [((X,), [("box", (X, Z))], [])])

    def test_the_order_of_leaving_out_matters(self):
        # Of the first two atoms only one is needed: the earlier one goes.
        self.check([((X,), [("box", (X, Y)), ("box", (X, Z)), ("tag", (X,))], [])],
                   [((X,), [("box", (X, Z)), ("tag", (X,))], [])])
        self.check([((X,), [("box", (X, Z)), ("box", (X, Y)), ("tag", (X,))], [])],
                   [((X,), [("box", (X, Y)), ("tag", (X,))], [])])
        alike = ((X,), [("box", (X, Y))], [(X, "=", Y)])
        apart = ((X,), [("box", (X, Y))], [(X, "!=", Y)])
        self.check([alike, STARTS, apart], [STARTS])
        self.check([alike, apart, ((X,), [("box", (X, Z))], [])], [((X,), [("box", (X, Z))], [])])

    def test_made_views(self):
        shorter = 0
        for seed in range(300):
            schema, view = made_view(seed)
            least = least_view(schema, view)
            self.assertEqual(least, plain_least_view(schema, view), seed)
            self.assertTrue(equal_views(schema, view, least))
            for place, (_, atoms, _) in enumerate(least[1]):
                self.assertIs(can_leave_rule(schema, least, place), False)
                for atom in range(len(atoms)):
                    self.assertIs(can_leave_atom(schema, least, place, atom=atom), False)
            self.assertEqual(least_view(schema, least), least)
            facts = Maker(seed).facts(schema, ["a", "b", "q"], 8)
            self.assertEqual(plain_view_rows(facts, least), plain_view_rows(facts, view))
            shorter += least != view
        self.assertGreater(shorter, 100)


class Interface(unittest.TestCase):
    def test_the_functions_are_defined_in_this_file(self):
        for function in [can_leave_atom, can_leave_rule, least_view]:
            self.assertEqual(function.__module__, minimal.__name__)

    def test_the_names_of_the_arguments(self):
        view = (1, [STARTS])
        self.assertIs(can_leave_atom(schema=SCHEMA, view=view, place=0, atom=0), False)
        self.assertIs(can_leave_rule(schema=SCHEMA, view=view, place=0), False)
        self.assertEqual(least_view(schema=SCHEMA, view=view), view)
        self.assertRaises(TypeError, lambda: can_leave_atom(SCHEMA, view, 0, 0))
