"""The assignments with which a rule has a row, with words that need not stand in any fact yet."""

from wishshown.joins import facts_made, holds, unify, variables_of


def head_match(rule, row):
    """The assignment of the variables of the head with which it has the row; None if there is none."""
    return unify(("", rule[0]), ("", row), ())


def fillings(rule, row, words, *, further, allows, most=None):
    """The assignments of the rule that have the row, fulfill the conditions and make facts that are allowed.

    words has for each variable the words that it can have. Besides these it can have the further words, which are a
    list; of these, the one that comes for the first time is the first one that has not come yet. The assignments are
    in the order of the words in these lists. allows is asked about a fact and the list of those that the assignment
    made before it. If there are more assignments than most, only some of them are returned.
    """
    bound = head_match(rule, row)
    if bound is None:
        return []
    fixed = dict(bound)
    variables = variables_of(rule[1])
    begun = _longer([], (), 0, _due(rule, [], None), allows)
    for count, variable in enumerate(variables):
        due = _due(rule, variables[:count + 1], variable)
        longer = []
        for assignment, come, facts in list(begun):
            for word in _choices(words[variable], further[:come + 1], fixed.get(variable)):
                more = (*assignment, (variable, word))
                longer.extend(_longer(facts, more, _come(word, further, come), due, allows))
            if most is not None and count + 1 == len(variables) and len(longer) > most:
                break
        begun = longer
    return [assignment for assignment, _, _ in begun]


def _choices(words, further, fixed):
    """The words that the next variable can have; at most the fixed one if there is one."""
    if fixed is None:
        return words + further
    return [fixed] if fixed in words or fixed in further else []


def _come(word, further, come):
    """The number of the further words that have come, with this word."""
    return max(come, further.index(word) + 1) if word in further else come


def _due(rule, variables, last):
    """The atoms and conditions whose variables are among these, the last one being one of them.

    With None as the last one these are the atoms and conditions without variables.
    """
    _, atoms, conditions = rule
    return (
        [atom for atom in atoms if _is_due([atom], variables, last)],
        [condition for condition in conditions if _is_due([("", (condition[0], condition[2]))], variables, last)],
    )


def _is_due(atoms, variables, last):
    own = variables_of(atoms)
    return own == [] if last is None else last in own and all(variable in variables for variable in own)


def _longer(facts, assignment, come, due, allows):
    """A list of the assignment with its facts; an empty one if a condition or a fact that is due is not right."""
    atoms, conditions = due
    if not all(holds(condition, assignment) for condition in conditions):
        return []
    made = list(facts)
    for fact in facts_made(atoms, assignment):
        if not allows(fact, made):
            return []
        made.append(fact)
    return [(assignment, come, made)]
