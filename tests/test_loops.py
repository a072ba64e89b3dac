"""What a loop walks is not changed in it: L23 and "Iteration" of L5 in LANGUAGE.md."""

import ast
import pathlib
import unittest

PACKAGE = pathlib.Path(__file__).resolve().parent.parent / "meshmend"

CHANGES = (
    "add", "append", "clear", "discard", "extend", "insert", "pop", "remove", "reverse", "setdefault", "sort", "update",
)
VIEWS = ("items", "keys", "values")
WALKS = ("enumerate", "reversed", "zip")
COMPREHENSIONS = (ast.DictComp, ast.GeneratorExp, ast.ListComp, ast.SetComp)


def places(node):
    """The names, fields and items that the expression gives as they are, not as a copy."""
    if isinstance(node, (ast.Name, ast.Attribute, ast.Subscript)) and not is_slice(node):
        return {ast.unparse(node)}
    if isinstance(node, ast.IfExp):
        return places(node.body) | places(node.orelse)
    if isinstance(node, ast.BoolOp):
        return set().union(*[places(value) for value in node.values])
    return set()


def is_slice(node):
    return isinstance(node, ast.Subscript) and isinstance(node.slice, ast.Slice)


def walked(node):
    """The places that a loop over the expression walks."""
    if isinstance(node, ast.Call) and isinstance(node.func, ast.Attribute) and node.func.attr in VIEWS:
        return places(node.func.value)
    if isinstance(node, ast.Call) and isinstance(node.func, ast.Name) and node.func.id in WALKS:
        return set().union(*[walked(value) for value in node.args])
    return places(node)


def changed(node):
    """The places that this one statement or expression changes."""
    if isinstance(node, ast.Call) and isinstance(node.func, ast.Attribute) and node.func.attr in CHANGES:
        return places(node.func.value)
    if isinstance(node, ast.Subscript) and isinstance(node.ctx, (ast.Store, ast.Del)):
        return places(node.value)
    if isinstance(node, ast.AugAssign):
        return places(node.target)
    return set()


def pairs_of(target, value):
    """The pairs of a place that is assigned and a place that it is one with then."""
    if isinstance(target, ast.Tuple) and isinstance(value, ast.Tuple):
        return [pair for one, other in zip(target.elts, value.elts) for pair in pairs_of(one, other)]
    return [(one, other) for one in places(target) for other in places(value)]


def one_with(function, found):
    """The places found, with all that assignments anywhere in the function may make one with them.

    Anywhere, as within a "while" a later assignment comes ahead of the next walk.
    """
    pairs = []
    for node in ast.walk(function):
        if isinstance(node, ast.Assign):
            for target in node.targets:
                pairs.extend(pairs_of(target, node.value))
    grown = set(found)
    for _ in pairs:
        for pair in pairs:
            if grown & set(pair):
                grown |= set(pair)
    return grown


def loops_of(function):
    """Pairs of the expressions that a loop or comprehension walks and of what stands in it."""
    for node in ast.walk(function):
        if isinstance(node, ast.For):
            yield [node.iter], node.body
        if isinstance(node, COMPREHENSIONS):
            yield [part.iter for part in node.generators], [node]


def faults(text):
    """The pairs of a function and a row in it that changes what a loop around this row walks."""
    found = set()
    for function in ast.walk(ast.parse(text)):
        if not isinstance(function, ast.FunctionDef):
            continue
        for expressions, body in loops_of(function):
            kept = one_with(function, set().union(*[walked(node) for node in expressions]))
            for node in [inner for statement in body for inner in ast.walk(statement)]:
                if changed(node) & kept:
                    found.add((function.name, node.lineno))
    return sorted(found)


def rows(*lines):
    return "\n".join(("def told(xs, ys):",) + lines) + "\n"


class LoopsTest(unittest.TestCase):
    def test_no_loop_of_the_package_changes_what_it_walks(self):
        for path in sorted(PACKAGE.rglob("*.py")):
            self.assertEqual(faults(path.read_text()), [], path)

    def test_changes_are_found(self):
        bad = (
            rows(" for x in xs:", "  xs.append(x)"),
            rows(" for k, x in enumerate(xs):", "  xs[k] = x"),
            rows(" for x, y in zip(xs, ys):", "  del ys[0]"),
            rows(" for k, x in xs.items():", "  xs.pop(k)"),
            rows(" for x in xs.part:", "  xs.part += [x]"),
            rows(" for x in xs[0]:", "  xs[0].append(x)"),
            rows(" for x in xs if ys else ys:", "  ys.append(x)"),
            rows(" for x in xs or ys:", "  ys.append(x)"),
            rows(" return [xs.pop() for x in xs]"),
        )
        for text in bad:
            self.assertEqual([name for name, _ in faults(text)], ["told"], text)

    def test_changes_by_another_name_are_found(self):
        loop = (" for x in xs:", "  ys.append(x)")
        for line in (" xs = ys", " ys = xs", " xs, k = ys, 0", " k = ys\n xs = k", " xs = ys or k"):
            self.assertEqual(faults(rows(line, *loop)), [("told", 4 + line.count("\n"))], line)
            self.assertEqual([name for name, _ in faults(rows(*loop, line))], ["told"], line)

    def test_a_list_that_becomes_the_one_that_is_walked_is_found(self):
        loop = (" while xs:", "  ys = []", "  for x in {}:", "   ys.append(x)", "  xs = ys")
        self.assertEqual(faults(rows(*loop).format("xs")), [("told", 5)])
        self.assertEqual(faults(rows(*loop).format("list(xs)")), [])

    def test_copies_may_be_walked(self):
        good = (
            rows(" for x in list(xs):", "  xs.append(x)"),
            rows(" for x in xs[1:]:", "  xs.append(x)"),
            rows(" ys = list(xs)", " for x in xs:", "  ys.append(x)"),
            rows(" for x in list(xs.values()):", "  xs.pop(x)"),
            rows(" for x in xs:", "  ys = ys + [x]"),
        )
        for text in good:
            self.assertEqual(faults(text), [], text)


if __name__ == "__main__":
    unittest.main()
