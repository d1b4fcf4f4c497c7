"""More rules of the language that can be seen in the tree of a file, told more strictly than the rules are."""

import ast
import unittest
from pathlib import Path

PACKAGE = Path(__file__).resolve().parent.parent / "eachshare"
TREES = {path: ast.parse(path.read_text(encoding="ascii")) for path in sorted(PACKAGE.rglob("*.py"))}

# L25, as far as the package uses it; what is not here must be a method or a function of the package.
BUILTIN_METHODS = {
    "append", "clear", "copy", "count", "endswith", "extend", "find", "get", "index", "insert", "items", "join", "keys",
    "pop", "remove", "replace", "reverse", "setdefault", "split", "startswith", "strip", "update", "values",
    "add", "discard", "bit_length",
}
DUNDERS = {
    "__init__", "__eq__", "__ne__", "__repr__", "__str__", "__len__", "__enter__", "__exit__", "__call__", "__iter__",
    "__contains__", "__getitem__", "__bool__", "__and__", "__or__", "__sub__", "__invert__", "__rand__", "__ror__",
    "__rsub__",
}
OPERATORS = DUNDERS - {"__init__", "__enter__", "__exit__", "__call__", "__iter__"}
STATEMENTS = (
    ast.Assign, ast.AugAssign, ast.If, ast.While, ast.For, ast.Return, ast.Break, ast.Continue, ast.Pass, ast.Raise,
    ast.Assert, ast.Delete, ast.Expr, ast.FunctionDef, ast.ClassDef, ast.ImportFrom, ast.With, ast.Try,
)
ON_THE_SPOT = {"zip", "enumerate", "reversed"}
VIEWS = {"items", "keys", "values"}
TAKERS = {"list", "tuple", "dict", "sorted", "sum", "any", "all", "enumerate", "zip", "min", "max"}
CHANGING = {"append", "clear", "extend", "insert", "pop", "remove", "reverse", "setdefault", "update", "add", "discard"}
# Classes whose objects change, and names of methods that take what hangs on their class.
CHANGED = {"Desk", "Trial", "Proof"}
SEVERAL = {"after", "renamed", "_end"}
WORDS = {
    "type", "typing", "enum", "Enum", "Flag", "Generic", "Protocol", "ABC", "namedtuple", "dataclass", "overload",
    "contextmanager", "mro", "elements", "open", "input", "law", "register", "map", "filter", "hash",
}


def walked(kind):
    for path, tree in TREES.items():
        for part in ast.walk(tree):
            if isinstance(part, kind):
                yield path, part


def with_parents(tree):
    for parent in ast.walk(tree):
        for part in ast.iter_child_nodes(parent):
            yield part, parent


def called(part):
    """The bare name that a call calls, or None."""
    return part.func.id if isinstance(part, ast.Call) and isinstance(part.func, ast.Name) else None


def method_called(part):
    return part.func.attr if isinstance(part, ast.Call) and isinstance(part.func, ast.Attribute) else None


def functions():
    return walked(ast.FunctionDef)


def arguments(function):
    return [one.arg for one in function.args.posonlyargs + function.args.args + function.args.kwonlyargs]


def stored(function):
    return {part.id for part in ast.walk(function) if isinstance(part, ast.Name) and isinstance(part.ctx, ast.Store)}


def is_plain(value, place, body):
    """Whether a value at this place of a file is plain: of constants, tuples of such, and functions defined above."""
    if isinstance(value, ast.Dict):
        parts = value.keys + value.values
        return not any(isinstance(part, ast.Dict) for part in parts) and all(is_plain(part, place, body) for part in parts)
    if isinstance(value, ast.Tuple):
        return not any(isinstance(part, ast.Dict) for part in value.elts) and all(is_plain(part, place, body) for part in value.elts)
    if isinstance(value, ast.Name):
        return value.id in {part.name for part in body[:place] if isinstance(part, ast.FunctionDef)}
    return isinstance(value, ast.Constant)


def assigned(function, name):
    """What a local variable is assigned by plain statements."""
    return [
        part.value for part in ast.walk(function) if isinstance(part, ast.Assign)
        and any(isinstance(target, ast.Name) and target.id == name for target in part.targets)
    ]


def mentioned(parts):
    """The names of all variables and attributes in some parts."""
    found = set()
    for one in [one for part in parts for one in ast.walk(part)]:
        if isinstance(one, (ast.Name, ast.Attribute)):
            found.add(one.id if isinstance(one, ast.Name) else one.attr)
    return found


def taking_of_themselves(tree):
    """The rows where +=, |= and their kin, extend or update get something of the list or dict that they change.

    Told more strictly than the rule: a copy, a number, and what another object has under the same name count, too.
    """
    for part in ast.walk(tree):
        target, given = None, []
        if isinstance(part, ast.AugAssign):
            target, given = part.target, [part.value]
        elif method_called(part) in {"extend", "update"}:
            target, given = part.func.value, part.args + [word.value for word in part.keywords]
        while isinstance(target, ast.Subscript):
            target = target.value
        # What a call or a choice gives can be anything that is named in it.
        names = {target.attr} if isinstance(target, ast.Attribute) else mentioned([target] if target else [])
        if names & mentioned(given):
            yield part.lineno


class Statements(unittest.TestCase):
    def test_kinds(self):
        for path, part in walked(ast.stmt):
            self.assertIsInstance(part, STATEMENTS, (path, part.lineno))

    def test_no_generator_expressions_and_no_floats(self):
        for path, part in walked((ast.GeneratorExp, ast.NamedExpr, ast.Div)):
            self.fail((path, part))
        for path, part in walked(ast.Constant):
            self.assertIsInstance(part.value, (int, str, type(None)), path)

    def test_stars(self):
        for path, tree in TREES.items():
            for part, parent in with_parents(tree):
                if isinstance(part, ast.Starred):
                    # Only what a table of functions gives is called so, by a list or tuple that a name holds.
                    self.assertEqual([called(parent), type(part.value)], ["action", ast.Name], path)

    def test_errors_that_are_caught_are_own(self):
        own = {part.name for _, part in walked(ast.ClassDef)}
        for path, part in walked(ast.ExceptHandler):
            names = part.type.elts if isinstance(part.type, ast.Tuple) else [part.type]
            self.assertTrue({name.id for name in names} <= own, path)
        for path, part in walked(ast.Try):
            self.assertEqual(part.finalbody, [], path)
            caught = [handler.name for handler in part.handlers if handler.name]
            self.assertEqual(len(caught), len(set(caught)), path)

    def test_blocks(self):
        for path, part in walked(ast.With):
            self.assertEqual(len(part.items), 1, path)
            self.assertIsInstance(part.items[0].context_expr, ast.Call, path)
        for path, part in functions():
            if part.name == "__exit__":
                begun, *rest = part.body
                self.assertEqual(ast.unparse(begun), "desk = self._desk", path)
                for row in rest:
                    self.assertIsInstance(row, ast.Assign, path)
                    self.assertEqual(row.targets[0].value.id, "desk", path)
                    self.assertTrue(is_of_self(row.value), path)

    def test_annotations_and_decorators(self):
        for path, part in functions():
            self.assertIsNone(part.returns)
            self.assertFalse([one for one in part.args.args if one.annotation])
            names = {one.id for one in part.decorator_list}
            self.assertTrue(names <= {"property", "classmethod", "staticmethod"}, path)

    def test_module_level(self):
        for path, tree in TREES.items():
            for place, part in enumerate(tree.body):
                docstring = place == 0 and isinstance(part, ast.Expr) and isinstance(part.value, ast.Constant)
                plain = isinstance(part, ast.Assign) and is_plain(part.value, place, tree.body)
                self.assertTrue(docstring or plain or isinstance(part, (ast.ImportFrom, ast.FunctionDef, ast.ClassDef)), path)

    def test_identity_with_constants_only(self):
        for path, part in walked(ast.Compare):
            for sign, other in zip(part.ops, part.comparators):
                if isinstance(sign, (ast.Is, ast.IsNot)):
                    self.assertIsInstance(other, ast.Constant, (path, part.lineno))
                    self.assertTrue(other.value is None or isinstance(other.value, bool), (path, part.lineno))

    def test_generators(self):
        for path, tree in TREES.items():
            for part, parent in with_parents(tree):
                if isinstance(part, (ast.Yield, ast.YieldFrom)):
                    self.assertIsInstance(parent, ast.Expr, path)


class Names(unittest.TestCase):
    def test_no_local_name_is_an_import_or_a_class(self):
        for path, tree in TREES.items():
            imports = {name.name for part in tree.body if isinstance(part, ast.ImportFrom) for name in part.names}
            classes = {part.name for part in tree.body if isinstance(part, ast.ClassDef)}
            for part in ast.walk(tree):
                if isinstance(part, ast.FunctionDef):
                    local = stored(part) | set(arguments(part))
                    self.assertEqual(local & (imports | classes), set(), (path, part.name))

    def test_double_underscores(self):
        for path, part in functions():
            if part.name.startswith("__"):
                self.assertIn(part.name, DUNDERS, path)
        for path, part in walked((ast.Name, ast.Attribute)):
            name = part.id if isinstance(part, ast.Name) else part.attr
            self.assertFalse(name.startswith("__"), (path, name))

    def test_words_that_are_not_used(self):
        for path, part in walked((ast.Name, ast.Attribute, ast.FunctionDef, ast.ClassDef, ast.arg)):
            name = getattr(part, "id", None) or getattr(part, "attr", None) or getattr(part, "name", None) or part.arg
            self.assertNotIn(name, WORDS, path)

    def test_strings(self):
        for path, part in walked(ast.Constant):
            if isinstance(part.value, str):
                self.assertNotIn("%", part.value)
                self.assertFalse(part.value.endswith("._"), path)

    def test_each_module_level_name_is_bound_once(self):
        for path, tree in TREES.items():
            names = [name.name for part in tree.body if isinstance(part, ast.ImportFrom) for name in part.names]
            names += [part.name for part in tree.body if isinstance(part, (ast.FunctionDef, ast.ClassDef))]
            names += [target.id for part in tree.body if isinstance(part, ast.Assign) for target in part.targets]
            self.assertEqual(len(names), len(set(names)), path)

    def test_no_circles_of_imports(self):
        needs = {}
        for path, tree in TREES.items():
            module = ".".join(path.relative_to(PACKAGE.parent).with_suffix("").parts)
            needs[module] = {part.module for part in tree.body if isinstance(part, ast.ImportFrom)}
        left = dict(needs)
        while left:
            free = [module for module in left if not needs[module] & set(left)]
            self.assertTrue(free, left)
            for module in free:
                del left[module]


def is_of_self(part):
    """Whether a part is an attribute of self."""
    return isinstance(part, ast.Attribute) and isinstance(part.value, ast.Name) and part.value.id == "self"


def callers_of_operators():
    """The names of the functions and methods that operators and properties call, at once or by others, and their own."""
    calls = {}
    found = set()
    for _, part in functions():
        names = {called(one) or method_called(one) for one in ast.walk(part) if isinstance(one, ast.Call)}
        calls.setdefault(part.name, set()).update(names - {None})
        if part.name in OPERATORS or any(one.id == "property" for one in part.decorator_list):
            found.add(part.name)
    waiting = sorted(found)
    while waiting:
        for name in sorted(calls.get(waiting.pop(), set()) - found):
            found.add(name)
            waiting.append(name)
    return found


class Classes(unittest.TestCase):
    def methods(self):
        for path, part in walked(ast.ClassDef):
            for row in part.body:
                if isinstance(row, ast.FunctionDef):
                    yield part, row

    def test_properties_are_no_methods(self):
        plain, properties = set(), set()
        for _, row in self.methods():
            names = {one.id for one in row.decorator_list}
            (properties if "property" in names else plain).add(row.name)
        self.assertEqual(plain & properties, set())
        self.assertEqual(properties & BUILTIN_METHODS, set())

    def test_no_method_is_an_attribute(self):
        for part, _ in self.methods():
            names = {row.name for row in part.body if isinstance(row, ast.FunctionDef)}
            kept = {
                one.attr for one in ast.walk(part) if isinstance(one, ast.Attribute) and isinstance(one.ctx, ast.Store)
            }
            self.assertEqual(names & kept, set(), part.name)

    def test_attributes_are_assigned_in_init_only(self):
        for part, row in self.methods():
            for one in ast.walk(row):
                if isinstance(one, ast.Attribute) and isinstance(one.ctx, ast.Store):
                    self.assertTrue(row.name == "__init__" or part.name in CHANGED, part.name)
                    self.assertTrue(row.name == "__init__" or row.name not in callers_of_operators(), row.name)

    def test_no_attribute_is_a_property(self):
        # An attribute of one class that has the name of a property of another one is not barred, but hard to read.
        names = {row.name for _, row in self.methods() if any(one.id == "property" for one in row.decorator_list)}
        for path, one in walked(ast.Attribute):
            if isinstance(one.ctx, ast.Store):
                self.assertNotIn(one.attr, names, path)

    def test_methods_of_one_name_take_the_same_number(self):
        # Whatever object a method is called of, the call passes what it takes.
        many = {}
        for part, row in self.methods():
            if not row.name.startswith("__"):
                shape = (len(row.args.args), len(row.args.kwonlyargs))
                many.setdefault(row.name, {}).setdefault(shape, []).append(part.name)
        several = {name: shapes for name, shapes in many.items() if len(shapes) > 1}
        self.assertEqual(set(several), SEVERAL)

    def test_lengths(self):
        for _, row in self.methods():
            if row.name == "__len__":
                values = [one.value for one in ast.walk(row) if isinstance(one, ast.Return)]
                self.assertEqual([called(value) for value in values], ["len"])
                # The package has objects with an index, so a range is made a list ahead of its length.
                self.assertNotIn(called(values[0].args[0]), ON_THE_SPOT | {"range"})

    def test_equality_asks_for_the_class_first(self):
        for part, row in self.methods():
            if row.name == "__eq__":
                self.assertIn(f"isinstance(other, {part.name})", ast.unparse(row.body[0]))

    def test_properties_and_operators_change_nothing(self):
        for part, row in self.methods():
            if row.name in OPERATORS or any(one.id == "property" for one in row.decorator_list):
                for one in ast.walk(row):
                    self.assertNotIn(method_called(one), CHANGING, (part.name, row.name))
                    self.assertNotIsInstance(one, (ast.AugAssign, ast.Delete))


class Calls(unittest.TestCase):
    def test_methods(self):
        own = {part.name for _, part in functions()}
        for path, part in walked(ast.Call):
            name = method_called(part)
            if name is not None:
                self.assertIn(name, own | BUILTIN_METHODS, path)
            if name in BUILTIN_METHODS:
                self.assertEqual(part.keywords, [], path)

    def test_no_attribute_is_called(self):
        # x.index(..) may call what x holds, as objects of the package have an attribute of this name.
        attributes = {part.attr for _, part in walked(ast.Attribute) if isinstance(part.ctx, ast.Store)}
        self.assertIn("index", attributes)
        for path, part in walked(ast.Call):
            self.assertNotIn(method_called(part), attributes, (path, part.lineno))

    def test_no_parameter_is_called(self):
        for path, part in functions():
            # A block of a desk is told by a call; what a table of functions gives is kept under a name and called.
            names = (set(arguments(part)) - {"cls"} | stored(part)) - {"call", "action"}
            self.assertEqual(names & {called(one) for one in ast.walk(part)}, set(), (path, part.name))

    def test_iterated_at_once(self):
        for path, tree in TREES.items():
            for part, parent in with_parents(tree):
                if called(part) in ON_THE_SPOT or method_called(part) in VIEWS:
                    looped = isinstance(parent, (ast.For, ast.comprehension)) and parent.iter == part
                    taken = called(parent) in TAKERS and parent.args[0] == part
                    self.assertTrue(looped or taken, (path, part.lineno))

    def test_ranges(self):
        for path, tree in TREES.items():
            for part, parent in with_parents(tree):
                if called(part) == "range":
                    looped = isinstance(parent, (ast.For, ast.comprehension)) and parent.iter == part
                    kept = isinstance(parent, ast.Assign) and isinstance(parent.targets[0], ast.Name)
                    taken = called(parent) in {"list", "tuple", "sorted", "reversed", "zip", "enumerate"}
                    self.assertTrue(looped or kept or taken, (path, part.lineno))

    def test_reversed_takes_what_has_an_order(self):
        for path, part in walked(ast.Call):
            if called(part) == "reversed":
                self.assertIn(called(part.args[0]), {"list", "tuple", "sorted", "range"}, path)

    def test_what_changes_is_the_own_of_its_function(self):
        made = {"list", "dict", "set", "sorted"}
        literals = (ast.List, ast.Dict, ast.Set, ast.ListComp, ast.DictComp, ast.SetComp)
        for path, part in functions():
            for one in ast.walk(part):
                target = None
                if method_called(one) in CHANGING:
                    target = one.func.value
                elif isinstance(one, ast.Subscript) and isinstance(one.ctx, ast.Store):
                    target = one.value
                if target is not None:
                    while isinstance(target, ast.Subscript):
                        target = target.value
                    if is_of_self(target):
                        self.assertNotIn(part.name, callers_of_operators(), path)
                        continue
                    self.assertIsInstance(target, ast.Name, (path, part.name))
                    values = assigned(part, target.id)
                    self.assertTrue(values, (path, part.name, target.id))
                    self.assertNotIn(target.id, arguments(part))
                    for value in values:
                        while isinstance(value, ast.BinOp):
                            value = value.right if isinstance(value.left, (ast.Name, ast.Constant)) else value.left
                        if is_of_self(value.value if isinstance(value, ast.Subscript) else value):
                            self.assertNotIn(part.name, callers_of_operators(), path)
                            continue
                        self.assertTrue(isinstance(value, literals) or called(value) in made, (path, part.name, target.id))

    def test_what_is_iterated_over_does_not_change(self):
        for path, part in walked(ast.For):
            names = {one.id for one in ast.walk(part.iter) if isinstance(one, ast.Name)}
            for one in [one for row in part.body for one in ast.walk(row)]:
                if method_called(one) in CHANGING and isinstance(one.func.value, ast.Name):
                    self.assertNotIn(one.func.value.id, names, (path, part.lineno))

    def test_nothing_takes_of_itself(self):
        for path, tree in TREES.items():
            self.assertEqual(list(taking_of_themselves(tree)), [], path)

    def test_how_that_is_found(self):
        # L5 Iteration: what += walks, or extend is handed, must not be what they change, whole or by an item.
        taking = [
            "counts[end] += counts[cut]", "counts[end] += counts.get(cut, 0)", "counts[end] += len(counts)",
            "rows += rows", "rows += list(rows)", "rows += [row for row in rows]", "rows[0] += rows[1]", "rows[0][1] += rows[2]",
            "many[end] -= many[cut]", "table |= table", "table[end] |= table[cut]", "rows.extend(rows)", "table.update(table)",
            "rows.extend(list(rows))", "rows[0].extend(rows[1])", "table[end].update(more, k=table[cut])",
            "self.rows += self.rows", "self.rows[0] += self.rows[1]", "self.rows.extend(other.rows)", "box.rows[k] += self.rows[j]",
            "(rows or more).extend(rows)", "rows[k if rows else 0] += rows[1]",
        ]
        for text in taking:
            self.assertEqual(list(taking_of_themselves(ast.parse("pass\n" + text))), [2], text)
        others = [
            "many = counts[cut]\ncounts[end] += many", "counts[end] = counts[end] + counts[cut]", "counts[end] += 1",
            "counts[counts[end]] += 1", "rows += more", "rows.extend(list(more))", "table[end] |= more[cut]", "rows = rows + rows",
            "self.rows += self.more", "self.rows[self.many] += self.many", "rows.append(rows[0])", "table.update(more)",
        ]
        for text in others:
            self.assertEqual(list(taking_of_themselves(ast.parse(text))), [], text)


class Sets(unittest.TestCase):
    def test_where_they_stand(self):
        for path, tree in TREES.items():
            for part, parent in with_parents(tree):
                if called(part) == "set" or isinstance(part, (ast.SetComp, ast.Set)):
                    kept = isinstance(parent, ast.Assign) and isinstance(parent.targets[0], ast.Name)
                    self.assertTrue(kept or called(parent) in {"sorted", "len"}, (path, part.lineno))

    def test_what_is_done_with_stored_ones(self):
        for path, part in functions():
            for name in stored(part):
                values = assigned(part, name)
                if any(called(value) == "set" or isinstance(value, (ast.Set, ast.SetComp)) for value in values):
                    self.assertEqual(len(values), 1, (path, name))
                    self.check_uses(part, name, path)

    def check_uses(self, function, name, path):
        for part, parent in with_parents(function):
            if isinstance(part, ast.Name) and part.id == name and isinstance(part.ctx, ast.Load):
                asked = isinstance(parent, ast.Compare) and isinstance(parent.ops[0], (ast.In, ast.NotIn))
                changed = isinstance(parent, ast.Attribute) and parent.attr in {"add", "discard"}
                self.assertTrue(asked or changed or called(parent) in {"len", "sorted"}, (path, name))
