"""Checks the rules of LANGUAGE.md that a short look at the code can check. Usage: language.py PACKAGE"""

import ast
import builtins
import pathlib
import re
import sys

ALLOWED_BUILTINS = set(
    "len range enumerate zip min max sum abs sorted reversed int str bool list tuple dict set isinstance ord repr any "
    "all divmod Exception ValueError TypeError KeyError IndexError LookupError super property".split()
)
METHODS_OF_VALUES = set(
    "append clear copy count endswith extend find get index insert isalnum isalpha isdigit islower isspace isupper "
    "items join keys ljust lower lstrip partition pop remove replace reverse rfind rjust rpartition rsplit rstrip "
    "setdefault split splitlines startswith strip update upper values zfill bit_length add discard sort".split()
)
BARRED_NAMES = {"register", "mro", "elements", "open", "input", "law", "format", "id", "hash", "next", "iter", "map"}
BARRED_WORDS = re.compile(r"\b(type|typing|enum|Enum|Flag|Generic|Protocol|ABC|namedtuple|NamedTuple)\b")
STATEMENTS = (
    ast.Assign, ast.AugAssign, ast.If, ast.While, ast.For, ast.Return, ast.Break, ast.Continue, ast.Pass, ast.Raise,
    ast.Assert, ast.Delete, ast.Try, ast.Expr, ast.FunctionDef, ast.ClassDef, ast.ImportFrom, ast.Match, ast.With,
)


class Check:
    """The problems of one package."""

    def __init__(self, package):
        self.root = pathlib.Path(package)
        self.problems = []
        self.defined = set()
        self.imports = {}

    def tell(self, path, line, words):
        self.problems.append(f"{path}:{line}: {words}")

    def run(self):
        paths = sorted(path for path in self.root.rglob("*") if "__pycache__" not in path.parts)
        files = [path for path in paths if path.is_file()]
        trees = {}
        for path in files:
            if path.suffix != ".py" or not re.fullmatch(r"[a-z0-9_]+", path.stem):
                self.tell(path, 0, "L1: no plain file")
                continue
            trees[path] = ast.parse(path.read_text())
        for folder in [self.root] + [path for path in paths if path.is_dir()]:
            if not (folder / "__init__.py").exists():
                self.tell(folder, 0, "L14: no __init__.py")
        for tree in trees.values():
            for node in ast.walk(tree):
                if isinstance(node, (ast.FunctionDef, ast.ClassDef)):
                    self.defined.add(node.name)
        for path, tree in trees.items():
            self.check_text(path)
            self.check_tree(path, tree)
        self.check_cycles()

    def check_text(self, path):
        lines = path.read_text().split("\n")
        if len(lines) > 400:
            self.tell(path, 400, "L10: too many lines")
        for at, line in enumerate(lines, 1):
            if len(line) > 120:
                self.tell(path, at, "L10: line too long")
            if any(not " " <= character <= "~" for character in line):
                self.tell(path, at, "L14: character")

    def check_tree(self, path, tree):
        imported = self.check_imports(path, tree)
        classes = {node.name for node in tree.body if isinstance(node, ast.ClassDef)}
        docstrings = self.docstrings(tree)
        for node in tree.body:
            plain = isinstance(node, (ast.FunctionDef, ast.ClassDef, ast.ImportFrom, ast.Assign))
            if not plain and not (isinstance(node, ast.Expr) and node.value in docstrings):
                self.tell(path, node.lineno, "L3: module level")
        for node in ast.walk(tree):
            if isinstance(node, ast.stmt) and not isinstance(node, STATEMENTS):
                self.tell(path, node.lineno, "L6: statement")
            if isinstance(node, ast.FunctionDef):
                self.check_function(path, node)
            if isinstance(node, ast.ClassDef) and not node.name[0].isalpha():
                self.tell(path, node.lineno, f"L12: a class's name begins with a letter: {node.name}")
            if isinstance(node, ast.Constant):
                self.check_constant(path, node, docstrings)
            if isinstance(node, (ast.GeneratorExp, ast.Await, ast.Yield, ast.Lambda, ast.Set, ast.SetComp, ast.Div)):
                self.tell(path, getattr(node, "lineno", 0), "kept out of this package")
            for name in self.bound_names(node):
                if name in imported or name in classes:
                    self.tell(path, node.lineno, f"L15: {name} is a class or an import")
                if hasattr(builtins, name) or name in BARRED_NAMES:
                    self.tell(path, node.lineno, f"L15, L17: {name}")
            self.check_use(path, node)

    def check_imports(self, path, tree):
        imported = set()
        for node in ast.walk(tree):
            if not isinstance(node, ast.ImportFrom):
                continue
            if node not in tree.body or not (node.module or "").startswith(self.root.name + ".") or node.level:
                self.tell(path, node.lineno, "L2: import")
                continue
            source = self.root.parent / (node.module.replace(".", "/") + ".py")
            self.imports.setdefault(path, set()).add(source)
            for alias in node.names:
                imported.add(alias.asname or alias.name)
                if not source.exists() or not re.search(
                    rf"^(def|class) {alias.name}\b|^{alias.name} = ", source.read_text(), re.MULTILINE
                ):
                    self.tell(path, node.lineno, f"L16: {alias.name} is not defined there")
                text = ast.unparse(ast.Module([n for n in tree.body if n is not node], []))
                if not re.search(rf"\b{alias.asname or alias.name}\b", text):
                    self.tell(path, node.lineno, f"{alias.name} is not used")
        return imported

    def docstrings(self, tree):
        found = set()
        for node in ast.walk(tree):
            if isinstance(node, (ast.Module, ast.ClassDef, ast.FunctionDef)) and node.body:
                first = node.body[0]
                if isinstance(first, ast.Expr) and isinstance(first.value, ast.Constant):
                    found.add(first.value)
        return found

    def check_function(self, path, node):
        if node.end_lineno - node.lineno + 1 > 40:
            self.tell(path, node.lineno, "L10: function too long")
        for decorator in node.decorator_list:
            if ast.unparse(decorator) != "property" and not ast.unparse(decorator).endswith(".setter"):
                self.tell(path, node.lineno, "L4: decorator")

    def check_constant(self, path, node, docstrings):
        if isinstance(node.value, (float, complex, bytes)):
            self.tell(path, node.lineno, "L7: value")
        if not isinstance(node.value, str):
            return
        if "%" in node.value:
            self.tell(path, node.lineno, "L27: percent sign")
        if node not in docstrings and BARRED_WORDS.search(node.value):
            self.tell(path, node.lineno, "L17: word")

    def bound_names(self, node):
        if isinstance(node, ast.arg):
            return [node.arg]
        if isinstance(node, ast.Name) and not isinstance(node.ctx, ast.Load):
            return [node.id]
        return []

    def check_use(self, path, node):
        if isinstance(node, ast.Name) and hasattr(builtins, node.id) and node.id not in ALLOWED_BUILTINS:
            self.tell(path, node.lineno, f"L8: {node.id}")
        if isinstance(node, ast.Call) and isinstance(node.func, ast.Attribute):
            name = node.func.attr
            if name not in METHODS_OF_VALUES and name not in self.defined and name != "__init__":
                self.tell(path, node.lineno, f"L25: {name}")
        if isinstance(node, ast.Call):
            for argument in node.args:
                if isinstance(argument, ast.Starred) and not isinstance(argument.value, ast.Name):
                    self.tell(path, node.lineno, "L7: behind a star")
        if isinstance(node, ast.Attribute) and not isinstance(node.ctx, ast.Load):
            if not isinstance(node.value, ast.Name):
                self.tell(path, node.lineno, "L18: an attribute that is not assigned through a local name")
        if isinstance(node, ast.Compare):
            for operator, other in zip(node.ops, node.comparators):
                plain = isinstance(other, ast.Constant) and other.value in (None, True, False)
                own = isinstance(node.left, ast.Name) and node.left.id == "self"
                if isinstance(operator, (ast.Is, ast.IsNot)) and not plain and not own:
                    self.tell(path, node.lineno, "L20: is")

    def check_cycles(self):
        for start in self.imports:
            seen, waiting = set(), list(self.imports[start])
            while waiting:
                path = waiting.pop()
                if path not in seen:
                    seen.add(path)
                    waiting.extend(self.imports.get(path, ()))
            if start in seen:
                self.tell(start, 0, "L16: imports in a circle")


if __name__ == "__main__":
    check = Check(sys.argv[1])
    check.run()
    for problem in check.problems:
        print(problem)
    print(f"language: {len(check.problems)} problems")
    sys.exit(1 if check.problems else 0)
