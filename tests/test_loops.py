"""What a loop walks is not changed in it: not by its own name, and not by another name of the same value."""

import ast
import pathlib
import unittest

FOLDER = pathlib.Path(__file__).resolve().parent.parent / "wishshown"
CHANGING = set("append extend insert pop remove clear reverse sort update setdefault add discard".split())
HEAPS = set("heappush heappop heapify heapreplace heappushpop".split())
WALKERS = set("enumerate zip reversed".split())
VIEWS = set("items keys values".split())
COMPREHENSIONS = (ast.ListComp, ast.SetComp, ast.DictComp, ast.GeneratorExp)


def choices(node):
    """The expressions whose value the expression can have as its own."""
    if isinstance(node, ast.IfExp):
        return choices(node.body) + choices(node.orelse)
    if isinstance(node, ast.BoolOp):
        return [each for value in node.values for each in choices(value)]
    return [node]


def called(node):
    """The name of the function that the expression calls by its bare name; None if it calls none."""
    return node.func.id if isinstance(node, ast.Call) and isinstance(node.func, ast.Name) else None


def walked(node):
    """The texts of what a loop over the expression walks."""
    found = []
    for each in choices(node):
        if called(each) in WALKERS:
            found += [text for part in each.args for text in walked(part)]
        elif isinstance(each, ast.Call) and isinstance(each.func, ast.Attribute) and each.func.attr in VIEWS:
            found += walked(each.func.value)
        elif isinstance(each, (ast.Name, ast.Attribute, ast.Subscript)):
            found.append(ast.unparse(each))
    return found


def changed(parts):
    """The texts of what is changed in the parts, each with its row."""
    found = []
    for node in [node for part in parts for node in ast.walk(part)]:
        if isinstance(node, ast.Call) and isinstance(node.func, ast.Attribute) and node.func.attr in CHANGING:
            found.append((node.func.value, node.lineno))
        elif called(node) in HEAPS:
            found.append((node.args[0], node.lineno))
        elif isinstance(node, ast.AugAssign) and not isinstance(node.target, ast.Subscript):
            found.append((node.target, node.lineno))
        elif isinstance(node, ast.Subscript) and not isinstance(node.ctx, ast.Load):
            found.append((node.value, node.lineno))
    return [(ast.unparse(each), row) for node, row in found for each in choices(node)]


def same_names(function):
    """For each name that is plainly assigned another one, all names of the same value."""
    pairs = []
    for node in ast.walk(function):
        if isinstance(node, (ast.Assign, ast.AnnAssign, ast.NamedExpr)):
            for target in node.targets if isinstance(node, ast.Assign) else [node.target]:
                sides = (target, node.value)
                together = all(isinstance(side, ast.Tuple) for side in sides)
                pairs += zip(*[side.elts for side in sides]) if together else [sides]
    groups = {}
    for target, value in pairs:
        for each in choices(value):
            if isinstance(target, ast.Name) and isinstance(each, (ast.Name, ast.Attribute, ast.Subscript)):
                first, second = [ast.unparse(side) for side in (target, each)]
                whole = groups.get(first, {first}) | groups.get(second, {second})
                groups.update({name: whole for name in whole})
    return groups


def loops(function):
    """Each loop and comprehension: what it goes over, and what is done in it."""
    for node in ast.walk(function):
        if isinstance(node, ast.For):
            yield (node.iter, node.body)
        elif isinstance(node, COMPREHENSIONS):
            for each in node.generators:
                yield (each.iter, [node])


def faults(text):
    """The rows in which what a loop around them walks is changed, each with the text of what is changed."""
    found = set()
    for function in [node for node in ast.walk(ast.parse(text)) if isinstance(node, ast.FunctionDef)]:
        groups = same_names(function)
        for over, body in loops(function):
            names = {name for each in walked(over) for name in groups.get(each, {each})}
            found |= {(row, name) for name, row in changed(body) if name in names}
    return sorted(found)


class Loops(unittest.TestCase):
    def check(self, rows, expected):
        self.assertEqual(faults("\n".join(["def given(xs, ys, box):", *[f"    {row}" for row in rows]])), expected)

    def test_the_package(self):
        for path in sorted(FOLDER.glob("*.py")):
            self.assertEqual(faults(path.read_text()), [], path)

    def test_another_name_of_the_same_list(self):
        rows = ["found = [()]", "for x in xs:", "    longer = []", "    for each in found:",
                "        longer.append((*each, x))", "    found = longer"]
        self.check(rows, [(6, "longer")])
        self.check([row.replace(" in found", " in list(found)") for row in rows], [])
        self.check([row.replace("= longer", "= list(longer)") for row in rows], [])
        self.check([row.replace("append((*each, x))", "extend([each])") for row in rows], [(6, "longer")])

    def test_names_of_names(self):
        for row in ["a = xs", "a = xs if ys else []", "a = ys or xs", "a, b = xs, ys", "b = a = xs"]:
            self.check([row, "for x in xs:", "    a.append(x)"], [(4, "a")])
        self.check(["a = xs", "b = a", "for x in b:", "    xs.append(x)"], [(5, "xs")])
        self.check(["rows = box.rows", "for row in box.rows:", "    rows.pop()"], [(4, "rows")])

    def test_own_names(self):
        for row in ["xs.append(x)", "xs[0] = x", "del xs[0]", "xs[0] += 1", "xs += [x]", "heappush(xs, x)",
                    "xs[1:] = []", "ys.append(xs.pop())"]:
            self.check(["for x in xs:", f"    {row}"], [(3, "xs")])
        self.check(["for x in box.rows:", "    if x:", "        box.rows.append(x)"], [(4, "box.rows")])

    def test_what_is_walked_by_way_of_something_else(self):
        for over in ["enumerate(xs)", "zip(ys, xs)", "reversed(xs)", "xs.items()", "xs if ys else []", "ys or xs",
                     "enumerate(zip(ys, xs))"]:
            self.check([f"for x in {over}:", "    xs.pop()"], [(3, "xs")])
        self.check(["return [xs.pop() for x in xs]"], [(2, "xs")])
        self.check(["return {x: y for x in ys for y in xs if xs.pop()}"], [(2, "xs")])

    def test_what_may_stand(self):
        for over in ["list(xs)", "sorted(xs)", "ys", "range(len(xs))", "xs + ys"]:
            self.check([f"for x in {over}:", "    xs.append(x)"], [])
        self.check(["for x in xs:", "    x.append(1)", "    ys[x] = xs[0]", "    box.xs.append(x)"], [])
        self.check(["for x in xs:", "    xs = xs + [x]"], [])
        self.check(["while xs:", "    xs.pop()", "for x in xs:", "    ys.append(x)", "xs.append(1)"], [])
