"""The form of the code: what can be seen of the rules in each file of the package.

Each finding is told with its file, row and rule.
"""

import ast
import builtins
import os
import tempfile
import unittest
import warnings

ROOT = os.path.join(os.path.dirname(os.path.dirname(os.path.abspath(__file__))), "groupsover")
LIBRARY = {"math": ("gcd", "lcm", "isqrt", "comb", "perm", "factorial")}
BUILTINS = ("len range enumerate zip min max sum abs sorted reversed int str bool list tuple dict set isinstance ord "
            "repr any all divmod iter next map Exception ValueError TypeError KeyError IndexError LookupError "
            "ZeroDivisionError ArithmeticError OverflowError RuntimeError NotImplementedError NotImplemented "
            "property classmethod staticmethod super").split()
METHODS = ("append clear copy count endswith extend find get index insert isalnum isalpha isdigit islower isspace "
           "isupper items join keys ljust lower lstrip partition pop remove replace reverse rfind rjust rpartition "
           "rsplit rstrip setdefault split splitlines startswith strip update upper values zfill bit_length").split()
NOWHERE = "register mro elements open input law version_info with_traceback add_note".split()
NO_NAMES = ("attrgetter breakpoint builtins compile copyright credits delattr dir eval exec exit gc getattr globals "
            "hasattr help id importlib license locals methodcaller os quit setattr super type vars sys __name__").split()
NO_WORDS = ("type typing typing_extensions enum Enum IntEnum StrEnum Flag IntFlag Generic Protocol ABC ABCMeta "
            "namedtuple NamedTuple TypedDict TYPE_CHECKING abstractmethod").split()
NO_ATTRIBUTES = ("items keys values pop update append clear extend insert remove reverse setdefault sort args encode "
                 "decode hex fromhex format").split()
DOUBLE = "__init__ __eq__ __repr__ __str__ __len__ __enter__ __exit__ __call__ __iter__ __contains__".split()
STATEMENTS = (ast.Assign, ast.AugAssign, ast.If, ast.While, ast.For, ast.Return, ast.Break, ast.Continue, ast.Pass,
              ast.Raise, ast.Assert, ast.Delete, ast.FunctionDef, ast.Expr, ast.ClassDef, ast.ImportFrom, ast.Try)
AT_ONCE = ("range", "zip", "enumerate", "reversed")
VIEWS = ("items", "keys", "values")
TAKERS = ("list", "tuple", "dict", "sorted", "sum", "any", "all", "enumerate", "zip", "min", "max")
CHANGING = ("append", "clear", "extend", "insert", "pop", "remove", "reverse", "setdefault", "update")


def package_files():
    found = []
    for folder, folders, files in os.walk(ROOT):
        folders[:] = sorted(name for name in folders if name != "__pycache__")
        found.extend(os.path.join(folder, name) for name in sorted(files) if not name.endswith(".pyc"))
    return found


def is_call_of(node, names):
    return isinstance(node, ast.Call) and isinstance(node.func, ast.Name) and node.func.id in names


def is_passing(node):
    """Whether a call gives a range, a zip, a view or the like, which is gone once it was iterated."""
    if is_call_of(node, AT_ONCE):
        return True
    return isinstance(node, ast.Call) and isinstance(node.func, ast.Attribute) and node.func.attr in VIEWS


def is_property(node):
    """Whether a member of a class is a property."""
    return isinstance(node, ast.FunctionDef) and any(getattr(word, "id", "") == "property"
                                                     for word in node.decorator_list)


def is_iterated_at_once(node):
    """Whether what such a call gives is iterated where it stands."""
    holder = node.parent
    if isinstance(holder, (ast.For, ast.comprehension)):
        return holder.iter is node
    if is_call_of(holder, TAKERS):
        return holder.args[:1] == [node]
    if isinstance(holder, ast.Compare):
        return is_call_of(node, ("range",)) and all(isinstance(sign, (ast.In, ast.NotIn)) for sign in holder.ops)
    return is_call_of(holder, ("reversed", "len")) and is_call_of(node, ("range",))


class File:
    """One file, and what is found in it."""

    def __init__(self, path, owned):
        self.path = os.path.relpath(path, os.path.dirname(ROOT))
        with open(path, encoding="utf-8") as file:
            self.text = file.read()
        with warnings.catch_warnings():
            warnings.simplefilter("error")
            self.tree = ast.parse(self.text)
            compile(self.text, path, "exec")
        self.owned = owned
        self.found = []
        self.nodes = list(ast.walk(self.tree))
        for node in self.nodes:
            for child in ast.iter_child_nodes(node):
                child.parent = node

    def tell(self, node, rule):
        self.found.append(f"{self.path}:{getattr(node, 'lineno', node)}: {rule}")

    def look(self):
        self.look_at_text()
        self.look_at_top()
        for node in self.nodes:
            self.look_at_names(node)
            self.look_at_values(node)
            self.look_at_statements(node)
            self.look_at_calls(node)
        for node in self.nodes:
            if isinstance(node, (ast.FunctionDef, ast.ClassDef)):
                self.look_at_scope(node)
        return self.found

    def look_at_text(self):
        lines = self.text.split("\n")
        if len(lines) > 400:
            self.tell(400, "L10 a file has at most 399 lines")
        for at, line in enumerate(lines, 1):
            if len(line) > 120:
                self.tell(at, "L10 a line has at most 120 characters")
            if any(not " " <= letter <= "~" for letter in line):
                self.tell(at, "L14 characters from the space to ~")
        for at, line in enumerate(lines, 1):
            if "_wall" in line or "_WallAttr" in line:
                self.tell(at, "L12 a word that stands nowhere")

    def look_at_top(self):
        imported = {}
        for node in self.tree.body:
            if isinstance(node, ast.ImportFrom):
                for alias in node.names:
                    if alias.asname or alias.name == "*" or node.level:
                        self.tell(node, "L2 imports by full names")
                    if alias.name in imported:
                        self.tell(node, "L15 one binding for each name")
                    imported[alias.name] = True
                if node.module in LIBRARY:
                    if any(alias.name not in LIBRARY[node.module] for alias in node.names):
                        self.tell(node, "L2 the library")
                elif not node.module.startswith("groupsover."):
                    self.tell(node, "L2 imports from the package")
                elif any(alias.name not in self.owned["defined"][node.module] for alias in node.names):
                    self.tell(node, "L16 an import names the file that defines the name")
            elif isinstance(node, ast.Assign):
                if len(node.targets) != 1 or not isinstance(node.targets[0], ast.Name):
                    self.tell(node, "L3 one name for each statement")
            elif not isinstance(node, (ast.FunctionDef, ast.ClassDef)):
                if not (isinstance(node, ast.Expr) and isinstance(node.value, ast.Constant)):
                    self.tell(node, "L3 what a module contains")
        bound = [node.name for node in self.tree.body if isinstance(node, (ast.FunctionDef, ast.ClassDef))]
        bound += [node.targets[0].id for node in self.tree.body if isinstance(node, ast.Assign)]
        if len(set(bound + list(imported))) != len(bound) + len(imported):
            self.tell(1, "L15 a name is bound once")
        used = {node.id for node in self.nodes if isinstance(node, ast.Name)}
        for name in imported:
            if name not in used:
                self.tell(1, f"an import is not used: {name}")
        self.imported = imported

    def look_at_names(self, node):
        name = None
        if isinstance(node, ast.Name):
            name = node.id
            if isinstance(node.ctx, ast.Load) and hasattr(builtins, name) and name not in BUILTINS:
                self.tell(node, f"L8 no builtin {name}")
            if isinstance(node.ctx, ast.Store) and hasattr(builtins, name):
                self.tell(node, f"L15 the name of a builtin: {name}")
            if name == "_" and isinstance(node.ctx, ast.Load):
                self.tell(node, "L12 _ is never read")
        elif isinstance(node, ast.arg):
            name = node.arg
            if hasattr(builtins, name):
                self.tell(node, f"L15 the name of a builtin: {name}")
            if node.annotation:
                self.tell(node, "L21 prefer no annotations")
        elif isinstance(node, (ast.FunctionDef, ast.ClassDef)):
            name = node.name
            if hasattr(builtins, name) and (not isinstance(node.parent, ast.ClassDef) or name in BUILTINS):
                self.tell(node, f"L15 the name of a builtin: {name}")
        elif isinstance(node, ast.Attribute):
            if node.attr in NOWHERE:
                self.tell(node, f"L17 {node.attr}")
            if isinstance(node.ctx, ast.Store) and node.attr in NO_ATTRIBUTES:
                self.tell(node, f"L26 no attribute {node.attr}")
            if isinstance(node.ctx, ast.Load) and node.attr not in self.owned["attributes"] and node.attr not in METHODS:
                self.tell(node, f"L18 an attribute that no class assigns: {node.attr}")
            if node.attr.startswith("__") and node.attr != "__init__":
                self.tell(node, f"L8 {node.attr}")
        if name and (name in NOWHERE or name in NO_NAMES and name != "super"):
            self.tell(node, f"L17 {name}")
        if name and name.startswith("__") and name not in DOUBLE:
            self.tell(node, f"L8 {name}")
        if name and name in NO_WORDS:
            self.tell(node, f"L17 {name}")

    def look_at_values(self, node):
        if isinstance(node, ast.Constant):
            docstring = isinstance(node.parent, ast.Expr)
            if isinstance(node.value, (float, complex)):
                self.tell(node, "L7 no float")
            if isinstance(node.value, str):
                if "%" in node.value and not docstring:
                    self.tell(node, "L27 no percent sign in a string")
                if not docstring and any(word in NO_WORDS and word != "type" for word in node.value.split()):
                    self.tell(node, "L17 a word in a string")
        if isinstance(node, (ast.Div, ast.MatMult)):
            self.tell(node.parent, "L7 no /")
        if isinstance(node, ast.GeneratorExp):
            if not is_call_of(node.parent, ("list", "tuple", "dict")):
                self.tell(node, "L7 a generator expression, where classes have __eq__")
        if isinstance(node, ast.BinOp) and isinstance(node.op, ast.Pow):
            if not (isinstance(node.right, ast.Constant) and 0 <= node.right.value <= 64):
                self.tell(node, "L27 an exponent is a literal from 0 to 64")
        if isinstance(node, (ast.Set, ast.SetComp)) or is_call_of(node, ("set",)):
            holder = node.parent
            if not is_call_of(holder, ("sorted", "len")) or len(holder.args) != 1 or holder.keywords:
                self.tell(node, "L24 sets stand in sorted or len")
        if isinstance(node, (ast.Is, ast.IsNot)):
            compared = node.parent
            if not all(isinstance(one, ast.Constant) for one in compared.comparators):
                self.tell(compared, "L20 is with None, True and False")
        if isinstance(node, (ast.Await, ast.YieldFrom, ast.NamedExpr)):
            self.tell(node, "L6 what this package does without")

    def look_at_statements(self, node):
        if isinstance(node, ast.stmt) and not isinstance(node, STATEMENTS):
            self.tell(node, f"L6 no {node.__class__.__name__}")
        if isinstance(node, ast.Expr) and not isinstance(node.value, (ast.Constant, ast.Call, ast.Yield)):
            self.tell(node, "L6 a statement is a call")
        if isinstance(node, ast.FunctionDef):
            many = node.end_lineno - node.lineno + 1
            if many > 40:
                self.tell(node, "L10 a function has at most 40 lines")
            if not ast.get_docstring(node) and not node.name.startswith("__"):
                self.tell(node, "a function without a docstring")
            for decorator in node.decorator_list:
                if not isinstance(decorator, ast.Name) or decorator.id not in ("property", "classmethod"):
                    self.tell(node, "L4 no decorators but those over methods")
            if node.returns:
                self.tell(node, "L21 prefer no annotations")
            if node.name in ("__len__", "__str__") and not isinstance(node.body[-1], ast.Return):
                self.tell(node, "L28 ends with a return")
        if isinstance(node, (ast.For, ast.comprehension)):
            self.look_at_loop(node)
        if isinstance(node, ast.Try):
            self.look_at_try(node)
        if isinstance(node, ast.Raise):
            if not (isinstance(node.exc, ast.Call) and isinstance(node.exc.func, ast.Name)):
                self.tell(node, "L19 raise creates its error on the spot")

    def look_at_try(self, node):
        """Own errors alone are caught, and each caught error has a name of its own."""
        if node.finalbody or node.orelse:
            self.tell(node, "L6 what this package does without")
        for handler in node.handlers:
            kinds = handler.type.elts if isinstance(handler.type, ast.Tuple) else [handler.type]
            if not all(isinstance(kind, ast.Name) and kind.id in self.owned["errors"] for kind in kinds):
                self.tell(handler, "L19 own errors are caught, by their names")
        names = [handler.name for handler in node.handlers if handler.name]
        if len(set(names)) != len(names):
            self.tell(node, "L19 each caught error has a name of its own")

    def look_at_loop(self, node):
        """What a loop goes over is not changed in it."""
        over = node.iter
        if is_call_of(over, ("enumerate", "reversed")):
            over = over.args[0]
        if isinstance(over, ast.Call) and isinstance(over.func, ast.Attribute):
            over = over.func.value
        if not isinstance(over, (ast.Name, ast.Attribute, ast.Subscript)) or not isinstance(node, ast.For):
            return
        names = [ast.dump(over).replace("Load()", "X")]
        for inner in node.body:
            for child in ast.walk(inner):
                if isinstance(child, ast.Subscript) and not isinstance(child.ctx, ast.Load):
                    if ast.dump(child.value).replace("Load()", "X") in names:
                        self.tell(child, "L23 a loop changes what it goes over")
                if isinstance(child, ast.Call) and isinstance(child.func, ast.Attribute):
                    if child.func.attr in CHANGING:
                        if ast.dump(child.func.value).replace("Load()", "X") in names:
                            self.tell(child, "L23 a loop changes what it goes over")

    def look_at_calls(self, node):
        if not isinstance(node, ast.Call):
            return
        if is_passing(node) and not is_iterated_at_once(node):
            self.tell(node, "L23 iterated at once, not kept or passed on")
        if isinstance(node.func, ast.Attribute):
            known = node.func.attr in self.owned["methods"]
            if not known and node.func.attr not in METHODS:
                self.tell(node, f"L25 no method {node.func.attr}")
        if isinstance(node.func, ast.Name):
            name = node.func.id
            if name in self.owned["functions"] and not node.keywords:
                least, most = self.owned["functions"][name]
                starred = any(isinstance(one, ast.Starred) for one in node.args)
                if not starred and not least <= len(node.args) <= most:
                    self.tell(node, f"L22 {name} is passed another number of arguments")
            if name in LIBRARY["math"] and (node.keywords or any(isinstance(one, ast.Starred) for one in node.args)):
                self.tell(node, "L2 a library call by position")
            if node.keywords and hasattr(builtins, name):
                if not all((word.arg, name) in (("key", "sorted"), ("reverse", "sorted"), ("default", "max"),
                                                ("default", "min"), ("start", "enumerate")) for word in node.keywords):
                    self.tell(node, "L22 keywords of builtins")

    def look_at_scope(self, node):
        if isinstance(node, ast.ClassDef):
            methods = [one.name for one in node.body if isinstance(one, ast.FunctionDef)]
            if len(set(methods)) != len(methods):
                self.tell(node, "L18 no method is defined twice")
            kept = {one.attr for one in ast.walk(node) if isinstance(one, ast.Attribute)
                    and isinstance(one.ctx, ast.Store)}
            if kept & set(methods):
                self.tell(node, "L18 no name is a method and an attribute")
            if kept & self.owned["methods"]:
                self.tell(node, "L18 a name is an attribute here and a method of some class")
            if kept & self.owned["properties"]:
                self.tell(node, "L5 an attribute has the name of a property")
            self.look_at_properties(node)
            return
        inner = [child for child in ast.walk(node) if child is not node]
        names = {child.id for child in inner if isinstance(child, ast.Name) and isinstance(child.ctx, ast.Store)}
        names |= {child.arg for child in inner if isinstance(child, ast.arg)}
        classes = {one.name for one in self.tree.body if isinstance(one, ast.ClassDef)}
        for name in sorted(names & (classes | set(self.imported))):
            self.tell(node, f"L15 a local name of a class or an import: {name}")
        called = {child.func.id for child in inner if isinstance(child, ast.Call) and isinstance(child.func, ast.Name)}
        for name in sorted(names & called & self.owned["generators"]):
            self.tell(node, f"L23 a local name of a generator: {name}")

    def look_at_properties(self, node):
        """A property shares its name with nothing else that a class or a builtin value has."""
        for one in node.body:
            if is_property(one):
                if any(hasattr(kind, one.name) for kind in (str, int, bytes, list, tuple, dict, set)):
                    self.tell(one, f"L5 a property has the name of a method of a builtin value: {one.name}")
            elif isinstance(one, ast.FunctionDef):
                if one.name in self.owned["properties"]:
                    self.tell(one, f"L5 a method has the name of a property: {one.name}")
            elif isinstance(one, ast.Assign):
                names = {child.id for child in one.targets if isinstance(child, ast.Name)}
                if names & self.owned["properties"]:
                    self.tell(one, "L5 a class value has the name of a property")


def owned_names(trees):
    """What the files of the package define."""
    owned = {"attributes": set(), "methods": set(), "functions": {}, "defined": {}, "generators": set(),
             "properties": set(), "errors": set()}
    for path, tree in trees.items():
        module = os.path.relpath(path, os.path.dirname(ROOT))[:-3].replace(os.sep, ".")
        defined = owned["defined"].setdefault(module, set())
        if module == "groupsover.errors":
            owned["errors"] |= {node.name for node in tree.body if isinstance(node, ast.ClassDef)}
        for node in tree.body:
            if isinstance(node, (ast.FunctionDef, ast.ClassDef)):
                defined.add(node.name)
            if isinstance(node, ast.Assign):
                defined.add(node.targets[0].id)
            if isinstance(node, ast.FunctionDef):
                most = len(node.args.args)
                owned["functions"][node.name] = (most - len(node.args.defaults), most)
        for node in ast.walk(tree):
            if isinstance(node, ast.ClassDef):
                for one in node.body:
                    if isinstance(one, ast.FunctionDef):
                        owned["attributes"].add(one.name)
                        if is_property(one):
                            owned["properties"].add(one.name)
                        else:
                            owned["methods"].add(one.name)
            if isinstance(node, ast.Attribute) and isinstance(node.ctx, ast.Store):
                owned["attributes"].add(node.attr)
            if isinstance(node, ast.FunctionDef) and any(isinstance(one, ast.Yield) for one in ast.walk(node)):
                owned["generators"].add(node.name)
    return owned


def found_in(text):
    """What is found in the text of a file of the package."""
    with tempfile.TemporaryDirectory() as folder:
        path = os.path.join(folder, "some.py")
        with open(path, "w", encoding="utf-8") as file:
            file.write(text)
        owned = owned_names({path: ast.parse(text)})
        return File(path, owned).look()


class FormTest(unittest.TestCase):
    def test_what_is_iterated_at_once_is_not_passed_on(self):
        head = '"""A file."""\n\n\ndef told(numbers, more=()):\n    """Told."""\n    return numbers\n\n\n'
        head += 'class Box:\n    """A box."""\n\n    def put(self, numbers):\n        """Put."""\n        return numbers\n\n\n'
        call = 'def some(xs, d):\n    """Some."""\n    return {}\n'
        wrong = ("range(3)", "zip(xs, xs)", "enumerate(xs)", "reversed(xs)", "d.items()", "d.keys()", "d.values()")
        for text in wrong:
            for form in ("told({})", "told(xs, {})", "told(xs, more={})", "[told({}) for x in xs]", "Box().put({})",
                         "[x for y in xs for x in told({})]", "told(*{})", "{}", "({}, 1)", "zip(xs, {})"):
                self.assertTrue(found_in(head + call.format(form.format(text))), form.format(text))
            for form in ("told(list({}))", "[x for x in {}]", "told(tuple({}))", "sorted({})"):
                self.assertEqual(found_in(head + call.format(form.format(text))), [], form.format(text))
        for text in ("1 in range(3)", "[x for x in reversed(range(3))]", "len(range(3))", "[list(range(3))]"):
            self.assertEqual(found_in(head + call.format(text)), [], text)
        kept = 'def some(xs):\n    """Some."""\n    kept = range(3)\n    return told(kept)\n'
        self.assertTrue(found_in(head + kept))

    def test_a_property_shares_its_name_with_nothing_else(self):
        head = '"""A file."""\n\n\nclass Box:\n    """A box."""\n\n    @property\n    def {}(self):\n'
        head += '        """Told."""\n        return 1\n'
        other = '\n\nclass Other:\n    """Another one."""\n\n    {}\n'
        method = 'def {}(self):\n        """Told."""\n        return 2'
        for text in (method, "@classmethod\n    " + method.replace("self", "cls"), "{} = 3",
                     'def __init__(self):\n        self.{} = 4'):
            found = found_in(head.format("size") + other.format(text.format("size")))
            self.assertTrue(any("L5 " in told for told in found), text)
            self.assertEqual(found_in(head.format("size") + other.format(text.format("many"))), [], text)
        # two classes may each have a property of one name
        twice = other.format("@property\n    " + method.format("size"))
        self.assertEqual(found_in(head.format("size") + twice), [])
        for name in ("items", "title", "index", "add"):
            self.assertTrue(found_in(head.format(name)), name)

    def test_files(self):
        paths = package_files()
        self.assertLessEqual(len(paths), 100)
        folders = {os.path.dirname(path) for path in paths}
        for folder in folders:
            self.assertTrue(os.path.exists(os.path.join(folder, "__init__.py")))
        for path in paths:
            name = os.path.basename(path)
            self.assertTrue(name.endswith(".py"), path)
            self.assertEqual(name, name.lower())
            self.assertFalse(path[:-3] in folders, path)
            self.assertFalse(hasattr(builtins, name[:-3]) and name != "__init__.py", path)
            self.assertFalse(name[:-3] in NOWHERE + NO_NAMES, path)

    def test_rules(self):
        trees = {}
        for path in package_files():
            with open(path, encoding="utf-8") as file:
                trees[path] = ast.parse(file.read())
        owned = owned_names(trees)
        found = []
        for path in trees:
            found.extend(File(path, owned).look())
        self.assertEqual(found, [])

    def test_no_two_files_import_from_each_other(self):
        reached = {}
        for path in package_files():
            module = os.path.relpath(path, os.path.dirname(ROOT))[:-3].replace(os.sep, ".")
            with open(path, encoding="utf-8") as file:
                tree = ast.parse(file.read())
            reached[module] = {node.module for node in tree.body if isinstance(node, ast.ImportFrom)
                               and node.module.startswith("groupsover.")}
        for _ in reached:
            for module in reached:
                reached[module] |= {far for near in reached[module] for far in reached[near]}
        for module in reached:
            self.assertNotIn(module, reached[module])


if __name__ == "__main__":
    unittest.main()
