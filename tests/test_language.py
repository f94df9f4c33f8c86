"""The rules of the language that are easily looked at: every file of the package keeps to them."""

import ast
import builtins
import pathlib
import re
import unittest

PACKAGE = pathlib.Path(__file__).resolve().parent.parent / "unturned"
FILES = sorted(path for path in PACKAGE.iterdir() if path.name != "__pycache__")
BUILTINS = set("""len range enumerate zip min max sum abs sorted reversed int str bool bytes list tuple dict set frozenset
isinstance ord repr any all divmod Exception ValueError KeyError IndexError LookupError ZeroDivisionError iter next""".split())
WORDS = """type typing typing_extensions enum Enum IntEnum StrEnum Flag IntFlag Generic Protocol ABC ABCMeta namedtuple
NamedTuple TypedDict TYPE_CHECKING abstractmethod""".split()
# What the document's interface lists for each file, with its arguments.
INTERFACE = {
    "webs": "webfault(thing) in_doors(web) out_doors(web) doors(web)",
    "streams": "streamfault(web,thing) nothing(web) through(web,stream) worth(web,stream) at_doors(web,stream)",
    "walks": "turns(web,stream,thing)",
    "lots": "calms(web,stream,thing) least_lot(web,stream) greatest_lot(web,stream) is_calm(web,stream)",
    "fairs": "is_fair(thing) is_sharing(fair,thing) in_all(fair,sharing) loose(fair,sharing) turned_fair(fair)",
    "settling": "settle(fair) settle_back(fair) trail(fair) trail_holds(fair,thing)",
    "leading": "fair_of(web) sharing_of(web,stream,lot) stream_of(web,sharing) calm(web) last_calm(web)",
    "rooms": "door_row(web) with_room(web,road,room) change(web,road)",
    "pairs": "is_pair(web,thing) liked(web,house,one,other) joined(web,one,other) met(web,one,other)",
    "others": "turned(web) times(web,k) beside(one,other) cut(web,road) parted(web,road,room) without(web,road) "
              "liked_less(web,road,*,giving=True) with_like(web,house,order,*,giving=True)",
    "greatest": "greatest(web) narrow_room(web,lot) narrowest(web) narrow_holds(web,stream,thing) lost(web)",
    "small": "streams_of(web) calm_streams(web) many_lots(web,stream) bears_at(web,road)",
    "bundles": "bundle(web,stream) bundle_holds(web,stream,thing)",
    "verdicts": "verdict(web,stream) verdict_holds(web,stream,thing)",
    "liking": "both_liked(fair,one,other)",
    "rises": "most_by(web,door) rise(web,door)",
    "texts": "web_text(web) stream_text(stream) read_web(thing) read_stream(web,thing)",
}
# Likewise of each class: its methods, which stand in the class itself.
METHODS = {
    ("halls", "Hall"): "__init__(self,web) lay(self,begin,end,room) shut(self,road) widen(self,road,room) "
                       "give(self,house,order) take(self,house,order) build(self) raze(self) back(self) "
                       "tried(self,deeds,*,tell=None) log(self) web(self) deeds(self) calm(self) door_row(self) "
                       "change(self,road) verdict(self,stream) behind(self,number) twin(self) __len__(self) "
                       "__eq__(self,other) __str__(self)",
    ("desks", "Desk"): "__init__(self,hall) say(self,line) said(self)",
}
BUILTIN_METHODS = set("""append copy count endswith extend find get index insert isalnum isalpha isascii isdigit items join keys
lower pop remove replace setdefault split startswith strip upper values""".split())
NEVER = set("register mro elements open input law version_info with_traceback add_note format format_map".split())


def names_of(tree):
    """All names that the file binds or calls by, and attributes."""
    for node in ast.walk(tree):
        if isinstance(node, ast.Name):
            yield node.id
        elif isinstance(node, ast.Attribute):
            yield node.attr
        elif isinstance(node, ast.arg):
            yield node.arg
        elif isinstance(node, (ast.FunctionDef, ast.ClassDef)):
            yield node.name


class Language(unittest.TestCase):
    def trees(self):
        return [(path.name, ast.parse(path.read_text(encoding="utf-8"))) for path in FILES]

    def test_files(self):
        self.assertIn("__init__.py", [path.name for path in FILES])
        for path in FILES:
            self.assertRegex(path.name, r"^[a-z_][a-z0-9_]*\.py$")
            text = path.read_text(encoding="utf-8")
            lines = text.split("\n")
            self.assertLessEqual(len(lines), 400, path.name)
            self.assertLessEqual(max(map(len, lines)), 120, path.name)
            self.assertRegex(text, r"\A[ -~\n]*\Z", path.name)
            for word in WORDS:
                self.assertIsNone(re.search(rf"\b{word}\b", text), (path.name, word))
            self.assertIsNone(re.search("dataclass|overload|contextmanager", text), path.name)

    def test_functions_are_short(self):
        for file, tree in self.trees():
            for node in ast.walk(tree):
                if isinstance(node, ast.FunctionDef):
                    self.assertLessEqual(node.end_lineno - node.lineno + 1, 40, (file, node.name))

    def test_imports_and_module_level(self):
        for file, tree in self.trees():
            for node in tree.body:
                self.assertIsInstance(node, (ast.ImportFrom, ast.FunctionDef, ast.ClassDef, ast.Assign, ast.Expr))
                if isinstance(node, ast.Expr):
                    self.assertIsInstance(node.value, ast.Constant)
            for node in ast.walk(tree):
                self.assertNotIsInstance(node, (ast.Import, ast.Global, ast.Div))
                if isinstance(node, ast.ImportFrom):
                    self.assertEqual(node.level, 0)
                    self.assertTrue(node.module.startswith("unturned."), node.module)

    def test_names(self):
        for file, tree in self.trees():
            own = {node.name for node in ast.walk(tree) if isinstance(node, (ast.FunctionDef, ast.ClassDef))}
            brought = {name.name for node in ast.walk(tree) if isinstance(node, ast.ImportFrom) for name in node.names}
            bound = {n.id for n in ast.walk(tree) if isinstance(n, ast.Name) and isinstance(n.ctx, ast.Store)}
            bound |= {node.arg for node in ast.walk(tree) if isinstance(node, ast.arg)}
            bound |= {node.name for node in ast.walk(tree) if isinstance(node, ast.ExceptHandler) and node.name}
            self.assertFalse(bound & brought, file)
            self.assertFalse((bound | own) & set(dir(builtins)), file)
            for name in names_of(tree):
                self.assertNotIn(name, NEVER, file)
                self.assertFalse(name.startswith("_") and not name.endswith("__"), name)
            read = {n.id for n in ast.walk(tree) if isinstance(n, ast.Name) and isinstance(n.ctx, ast.Load)}
            self.assertLessEqual(read, own | brought | bound | BUILTINS, file)
            self.assertLessEqual(brought, read, file)

    def test_interface_stands_in_its_files(self):
        trees = dict(self.trees())
        for file, listed in INTERFACE.items():
            self.look_at_functions(file, trees[file + ".py"].body, listed)
        for (file, name), listed in METHODS.items():
            bodies = [node.body for node in trees[file + ".py"].body if isinstance(node, ast.ClassDef) and node.name == name]
            self.assertEqual(len(bodies), 1, (file, name))
            self.look_at_functions(file, bodies[0], listed)

    def look_at_functions(self, file, body, listed):
        """Those listed are defined in this body, and take what is listed."""
        own = {node.name: ast.unparse(node.args).replace(" ", "") for node in body if isinstance(node, ast.FunctionDef)}
        for name, handed in re.findall(r"(\w+)\(([^)]*)\)", listed):
            self.assertEqual(own.get(name), handed, (file, name))

    def test_looks_over_many_take_lists(self):
        # A class that compares would make rows that are told one by one forbidden there.
        for file, tree in self.trees():
            for node in ast.walk(tree):
                if isinstance(node, ast.Call) and isinstance(node.func, ast.Name):
                    if node.func.id in ("any", "all", "min", "max", "sum", "sorted"):
                        for handed in node.args:
                            self.assertNotIsInstance(handed, ast.GeneratorExp, (file, node.lineno))

    def test_methods_and_attributes_have_names_of_their_own(self):
        methods, attributes, read = set(), set(), set()
        for file, tree in self.trees():
            for node in ast.walk(tree):
                if isinstance(node, ast.ClassDef):
                    methods |= {part.name for part in node.body if isinstance(part, ast.FunctionDef)}
                if isinstance(node, ast.Attribute):
                    (attributes if isinstance(node.ctx, ast.Store) else read).add(node.attr)
        self.assertFalse(methods & attributes)
        self.assertLessEqual(read, methods | attributes | BUILTIN_METHODS)

    def test_double_underscore_methods_assign_nothing(self):
        for file, tree in self.trees():
            for node in ast.walk(tree):
                if isinstance(node, ast.FunctionDef) and node.name in ("__eq__", "__len__", "__str__"):
                    self.assertEqual([type(part) for part in node.body], [ast.Return], (file, node.name))

    def test_last_rows_are_plain(self):
        for file, tree in self.trees():
            for node in ast.walk(tree):
                if isinstance(node, ast.Try):
                    for part in node.finalbody:
                        self.assertIsInstance(part, (ast.Assign, ast.Expr), (file, part.lineno))
                        for inner in ast.walk(part):
                            self.assertNotIsInstance(inner, (ast.Subscript, ast.Compare, ast.BinOp, ast.Return))
                            if isinstance(inner, ast.Call):
                                self.assertEqual(inner.func.attr, "append")
                    for handler in node.handlers:
                        self.assertIsNotNone(handler.type, (file, handler.lineno))


if __name__ == "__main__":
    unittest.main()
