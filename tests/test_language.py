"""Rules of the language subset that a look at the code can tell; and where the interface's names are defined."""

import ast
import builtins
import importlib
import pathlib
import re
import unittest

FOLDER = pathlib.Path(__file__).resolve().parent.parent / "flippedpoints"
TREES = {path.stem: ast.parse(path.read_text(encoding="ascii")) for path in sorted(FOLDER.glob("*.py"))}
TEXTS = {path.stem: path.read_text(encoding="ascii") for path in sorted(FOLDER.glob("*.py"))}

INTERFACE = {
    "basics": "is_integer is_count is_number",
    "nets": "Net track_at point_of target_of is_setting first_setting many_settings last_exits leads_to is_leading renumbered",
    "readers": "net_text net_of setting_text setting_of",
    "machine": "is_state stepped ran gone_tracks run_visits is_run",
    "crowds": "is_crowd crowd_of is_empty moves moved by_sequence finished visits_by all_behind all_finished",
    "visits": "gone behind arriving come is_flow has_ring ring_of_visits less_ring",
    "least": "least_flow flows_below is_least_flow reduced met joined",
    "cuts": "is_cut ring_without is_ring_without sequence_without good_cut fewest_cut",
    "fast": "fast_flow fast_flow_by long_run sent",
    "lost": "lost_points is_shut closed entered never_ends lost_by",
    "papers": "arrive_paper never_paper own_paper crowd_paper",
    "judges": "is_arrive_paper is_never_paper is_own_paper is_crowd_paper",
    "shares": "expected share is_share is_expected tilt tilts come_by_tilt come_bounds",
    "trees": "is_tree all_trees many_trees period sent_times sent_back tree_behind",
    "rounds": "is_round_net is_ring_state turns turn_visits turn_length settled ahead all_ring_states",
    "timetable": "passed passed_within passing_time last_passed where_at track_gone_at",
    "pieces": "Piece alike parting",
    "plugging": "plugged looped",
    "mends": "by_settings longest fewest_turned swapped_exits better_swaps",
    "texts": "is_of_sort written read",
    "claims": "words is_claim contrary is_true paper_of is_paper_of",
    "commands": "is_name is_command is_deed",
    "desk": "Desk Trial tried",
}
METHODS_LISTED = {
    "nets.Net": "__init__ ends points many exits targets __eq__",
    "pieces.Piece": "__init__ net setting entrances outputs behind __eq__",
    "desk.Desk": "__init__ names labels __len__ __getitem__ __contains__ claim_of do __call__ do_all attempt attach fits lines copy again",
    "desk.Trial": "__init__ __enter__ __exit__",
}
# An interactive example leaves a `_` among Python's own names.
TAKEN = set(dir(builtins)) - {"_"}
BUILTINS = set("""len range enumerate zip min max sum abs sorted reversed int str bool list tuple dict set isinstance ord repr
    any all divmod property classmethod Exception ValueError LookupError ArithmeticError RuntimeError TypeError""".split())
METHODS = set("""append clear copy count endswith extend find get index insert isdigit items join keys lower lstrip partition
    pop remove replace reverse rfind rpartition rstrip setdefault split splitlines startswith strip update upper values""".split())
NODES = """Module FunctionDef ClassDef Return Assign AugAssign For While If Raise Expr Continue Break Pass ImportFrom alias
    arguments arg BoolOp BinOp UnaryOp IfExp Dict ListComp DictComp comprehension Compare Call Attribute Subscript Starred
    Name List Tuple Slice Constant Load Store And Or Add Sub Mult FloorDiv Mod Pow LShift RShift BitAnd BitOr Not
    USub Eq NotEq Lt LtE Gt GtE Is IsNot
    In NotIn Delete Del Try ExceptHandler With withitem JoinedStr FormattedValue""".split()
SPECIAL = "__init__ __eq__ __len__ __contains__ __getitem__ __iter__ __call__ __enter__ __exit__".split()
# Names that stand for something else in what looks at the package.
KEPT_FREE = "_cold _tuplegetter _outside _record _written_out _member_names _wall _WallAttr".split()
BARRED = """type typing enum Enum Flag Generic Protocol ABC namedtuple dataclass overload contextmanager register mro elements
    open input law exit eval exec globals locals vars dir id help compile super getattr setattr hasattr delattr""".split()


def walk(kind):
    return [(name, node) for name, tree in TREES.items() for node in ast.walk(tree) if isinstance(node, kind)]


def bound_names(function):
    """Parameters and local variables of a function."""
    names = [arg.arg for node in ast.walk(function) if isinstance(node, ast.arguments)
             for arg in node.args + [one for one in (node.vararg,) if one]]
    names += [node.name for node in ast.walk(function) if isinstance(node, ast.ExceptHandler) and node.name]
    return names + [node.id for node in ast.walk(function) if isinstance(node, ast.Name) and isinstance(node.ctx, ast.Store)]


class LanguageTests(unittest.TestCase):

    def test_files_and_sizes(self):
        for path in FOLDER.iterdir():
            if path.name != "__pycache__":
                self.assertRegex(path.name, r"^[a-z_]+\.py$")
        for name, text in TEXTS.items():
            lines = text.split("\n")
            self.assertLessEqual(len(lines), 399, name)
            self.assertFalse([line for line in lines if len(line) > 120 or "\t" in line], name)
            self.assertTrue(text.endswith("\n") and re.fullmatch("[ -~\n]*", text), name)
        for name, node in walk(ast.FunctionDef):
            self.assertLessEqual(node.end_lineno - node.lineno + 1, 40, (name, node.name))

    def test_only_plain_parts_of_the_language(self):
        for name, node in walk(ast.AST):
            self.assertIn(node.__class__.__name__, NODES, (name, getattr(node, "lineno", None)))

    def test_constants(self):
        for name, node in walk(ast.Constant):
            self.assertIn(node.value.__class__, (int, str, bool, None.__class__), (name, node.lineno))
            if isinstance(node.value, str):
                self.assertFalse("%" in node.value or node.value.endswith("._"), (name, node.lineno))
        for name, node in walk(ast.BinOp):
            if isinstance(node.op, ast.Pow):
                self.assertTrue(isinstance(node.right, ast.Constant) and 0 <= node.right.value <= 64, (name, node.lineno))

    def test_decorators_are_properties(self):
        for name, node in walk((ast.FunctionDef, ast.ClassDef)):
            self.assertIn([ast.unparse(one) for one in node.decorator_list], ([], ["property"], ["classmethod"]), (name, node.name))
            if isinstance(node, ast.ClassDef):
                methods = [part.name for part in node.body if isinstance(part, ast.FunctionDef)]
                special = [method for method in methods if method.startswith("__")]
                self.assertTrue(set(special) <= set(SPECIAL), (name, node.name))
                if "__getitem__" in special:
                    self.assertIn("__iter__", special)
                self.assertEqual(len(methods), len(set(methods)))
            else:
                nested = [part for part in ast.walk(node) if isinstance(part, ast.FunctionDef) and part is not node]
                self.assertEqual(nested, [], (name, node.name))

    def test_module_level(self):
        for name, tree in TREES.items():
            names, imports_over = [], False
            for at, part in enumerate(tree.body):
                if isinstance(part, ast.ImportFrom):
                    self.assertFalse(imports_over, (name, part.lineno))
                    names += [alias.name for alias in part.names]
                elif at == 0:
                    self.assertTrue(isinstance(part, ast.Expr) and isinstance(part.value, ast.Constant), name)
                else:
                    imports_over = True
                    self.assertIsInstance(part, (ast.FunctionDef, ast.ClassDef, ast.Assign), (name, part.lineno))
                    if isinstance(part, ast.Assign):
                        ast.literal_eval(part.value)
                        names += [target.id for target in part.targets]
                    else:
                        names.append(part.name)
            self.assertEqual(len(names), len(set(names)), name)
            self.assertFalse([one for one in names if one in TAKEN], name)

    def test_imports(self):
        graph = {}
        for name, node in walk(ast.ImportFrom):
            if node.module == "math":
                self.assertTrue({alias.name for alias in node.names} <= {"gcd", "lcm"}, name)
                continue
            package, _, source = node.module.partition(".")
            self.assertEqual([package, node.level, source in TREES], ["flippedpoints", 0, True], (name, node.lineno))
            graph.setdefault(name, set()).add(source)
            for alias in node.names:
                self.assertIsNone(alias.asname)
                self.assertIn(alias.name, self.defined(source), (name, node.lineno))
                used = [part for part in ast.walk(TREES[name]) if isinstance(part, ast.Name) and part.id == alias.name]
                self.assertTrue(used, (name, alias.name))
        ranks = {}
        while len(ranks) < len(TREES):
            ready = [name for name in TREES if name not in ranks and graph.get(name, set()) <= set(ranks)]
            self.assertTrue(ready, "files import from each other")
            ranks.update({name: True for name in ready})

    def defined(self, name):
        parts = TREES[name].body
        return [part.name for part in parts if isinstance(part, (ast.FunctionDef, ast.ClassDef))] + [
            target.id for part in parts if isinstance(part, ast.Assign) for target in part.targets]

    def test_names(self):
        for name, tree in TREES.items():
            imported = [alias.name for part in tree.body if isinstance(part, ast.ImportFrom) for alias in part.names]
            own = self.defined(name)
            for function in [node for node in ast.walk(tree) if isinstance(node, ast.FunctionDef)]:
                local = bound_names(function)
                taken = set(imported) | set(own) | TAKEN
                self.assertFalse([one for one in local if one in taken], (name, function.name))
                used = [node.id for node in ast.walk(function) if isinstance(node, ast.Name)]
                strange = [one for one in used if one not in local + imported + own and one not in BUILTINS]
                self.assertEqual(strange, [], (name, function.name))
                read = [node.id for node in ast.walk(function) if isinstance(node, ast.Name) and isinstance(node.ctx, ast.Load)]
                self.assertNotIn("_", read)
            words = set(re.findall(r"\w+", re.sub(r'""".*?"""|#.*', "", TEXTS[name], flags=re.S)))
            self.assertFalse([word for word in BARRED if word in words], name)
            every = set(re.findall(r"\w+", TEXTS[name]))
            self.assertFalse([word for word in every if word in KEPT_FREE or re.match("_(wall|pe_|dcw_|enum_|cm_|law_|sre)", word)], name)

    def test_calls(self):
        classes = [node.name for _, node in walk(ast.ClassDef)]
        own = [part.name for _, node in walk(ast.ClassDef) for part in node.body if isinstance(part, ast.FunctionDef)]
        for name, node in walk(ast.Call):
            place = (name, node.lineno)
            self.assertEqual(node.keywords, [], place)
            starred = [part for part in node.args if isinstance(part, ast.Starred)]
            self.assertTrue(all(isinstance(part.value, ast.Name) and part is node.args[-1] for part in starred), place)
            if isinstance(node.func, ast.Attribute):
                self.assertIn(node.func.attr, METHODS | set(own), place)
        for name, node in walk(ast.Raise):
            self.assertTrue(isinstance(node.exc, ast.Call) and node.exc.func.id in classes + ["TypeError"], (name, node.lineno))
            self.assertTrue(node.cause is None or isinstance(node.cause, ast.Name), (name, node.lineno))
        for name, node in walk(ast.ExceptHandler):
            caught = node.type.elts if isinstance(node.type, ast.Tuple) else [node.type]
            self.assertTrue(all(isinstance(one, ast.Name) and one.id in classes for one in caught), (name, node.lineno))


class InterfaceTests(unittest.TestCase):

    def test_each_name_is_defined_in_its_file(self):
        for name, listed in INTERFACE.items():
            module = importlib.import_module("flippedpoints." + name)
            for one in listed.split():
                self.assertEqual(getattr(module, one).__module__, "flippedpoints." + name)

    def test_methods_stand_in_the_class_itself(self):
        for name, listed in METHODS_LISTED.items():
            module, _, held = name.partition(".")
            one = getattr(importlib.import_module("flippedpoints." + module), held)
            self.assertTrue(set(listed.split()) <= set(vars(one)), name)


if __name__ == "__main__":
    unittest.main()
