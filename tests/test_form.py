"""What can be seen in the package's own text: it prints, reads and imports nothing, and keeps to its part of Python."""

import ast
import builtins
import inspect
import pathlib
import re
import unittest

from askedtables import questions

PACKAGE = pathlib.Path(questions.__file__).parent

OWN_NAMES = (
    "len range enumerate zip min max sum abs sorted reversed int str bool list tuple dict set frozenset isinstance "
    "ord repr any all divmod"
).split()

METHODS = (
    "append clear copy count endswith extend find get index insert isalnum isalpha isdigit islower isspace isupper "
    "items join keys ljust lower lstrip partition pop remove replace reverse rfind rjust rpartition rsplit rstrip "
    "setdefault split splitlines startswith strip update upper values zfill bit_length"
).split()

LEFT_OUT = (
    ast.Import, ast.ImportFrom, ast.With, ast.Match, ast.Delete, ast.Global, ast.Nonlocal, ast.Assert, ast.Yield,
    ast.YieldFrom, ast.Await, ast.AsyncFunctionDef, ast.AsyncFor, ast.AsyncWith, ast.SetComp, ast.DictComp,
    ast.GeneratorExp, ast.NamedExpr, ast.Starred, ast.Div, ast.AnnAssign,
)

LEFT_OUT_WORDS = (
    "type typing typing_extensions enum Enum IntEnum StrEnum Flag IntFlag Generic Protocol ABC ABCMeta namedtuple "
    "NamedTuple TypedDict TYPE_CHECKING abstractmethod"
).split()

WALKED_AT_ONCE = "zip enumerate reversed range items keys values".split()

CALLS = {
    "cq_answers": ["n", "most", "q", "rows"],
    "cq_ways": ["n", "q", "rows"],
    "cq_within": ["q", "p"],
    "cq_among": ["k", "q", "p"],
    "cq_shows": ["q"],
    "cq_fewest": ["q"],
    "cq_tree": ["q"],
    "cq_settled": ["n", "q", "rows"],
}


def package_files():
    """Each file's text, and the tree that Python makes of it."""
    texts = [path.read_text(encoding="utf-8") for path in sorted(PACKAGE.rglob("*.py"))]
    return [(text, ast.parse(text)) for text in texts]


class Form(unittest.TestCase):
    def test_the_calls_have_their_names_and_arguments(self):
        for name, arguments in CALLS.items():
            self.assertEqual(list(inspect.signature(getattr(questions, name)).parameters), arguments)

    def test_only_python_files_lie_in_the_package(self):
        inside = [path for path in PACKAGE.rglob("*") if "__pycache__" not in path.parts]
        self.assertEqual([path for path in inside if path.suffix != ".py"], [])

    def test_nothing_is_imported_and_no_left_out_form_is_used(self):
        for text, tree in package_files():
            found = [(type(node).__name__, node.lineno) for node in ast.walk(tree) if isinstance(node, LEFT_OUT)]
            self.assertEqual(found, [])

    def test_loops_have_no_else_and_comprehensions_one_for_and_one_if(self):
        for text, tree in package_files():
            for node in ast.walk(tree):
                if isinstance(node, (ast.For, ast.While)):
                    self.assertEqual(node.orelse, [], node.lineno)
                if isinstance(node, ast.Assign):
                    self.assertEqual(len(node.targets), 1, node.lineno)
                if isinstance(node, ast.ListComp):
                    self.assertEqual(len(node.generators), 1, node.lineno)
                    self.assertLessEqual(len(node.generators[0].ifs), 1, node.lineno)

    def test_only_the_listed_names_and_methods_of_pythons_own(self):
        for text, tree in package_files():
            for node in ast.walk(tree):
                if isinstance(node, ast.Name) and hasattr(builtins, node.id):
                    self.assertIn(node.id, OWN_NAMES, node.lineno)
                    self.assertIsInstance(node.ctx, ast.Load, node.lineno)
                if isinstance(node, ast.arg):
                    self.assertFalse(hasattr(builtins, node.arg), node.lineno)
                if isinstance(node, ast.Attribute):
                    self.assertIn(node.attr, METHODS, node.lineno)

    def test_the_top_of_a_file_holds_defs_and_plain_values(self):
        for text, tree in package_files():
            self.assertIsInstance(ast.get_docstring(tree), str)
            for node in tree.body[1:]:
                self.assertIsInstance(node, (ast.FunctionDef, ast.Assign), node.lineno)
                if isinstance(node, ast.Assign):
                    self.assertNotIsInstance(ast.literal_eval(node.value), (list, dict), node.lineno)

    def test_no_left_out_word_stands_in_a_file(self):
        for text, tree in package_files():
            self.assertEqual(set(re.findall(r"\w+", text)) & set(LEFT_OUT_WORDS), set())
            self.assertIsNone(re.search("dataclass|overload|contextmanager", text))

    def test_what_is_walked_at_once_is_not_kept(self):
        for text, tree in package_files():
            for node in ast.walk(tree):
                if isinstance(node, (ast.Assign, ast.AugAssign, ast.Return)) and isinstance(node.value, ast.Call):
                    called = node.value.func
                    name = called.id if isinstance(called, ast.Name) else called.attr
                    self.assertNotIn(name, WALKED_AT_ONCE + ["set", "frozenset"], node.lineno)

    def test_sizes_and_signs(self):
        for text, tree in package_files():
            self.assertLessEqual(len(text.splitlines()), 400)
            self.assertLessEqual(max(len(line) for line in text.splitlines()), 120)
            self.assertTrue(all(sign == "\n" or " " <= sign <= "~" for sign in text))
            for node in ast.walk(tree):
                if isinstance(node, ast.FunctionDef):
                    self.assertLessEqual(node.end_lineno - node.lineno + 1, 40, node.name)


if __name__ == "__main__":
    unittest.main()
