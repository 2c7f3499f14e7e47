"""The form of the package: what LANGUAGE.md asks for and a look at the code can tell."""

import ast
import os
import unittest

ROOT = os.path.dirname(os.path.dirname(os.path.abspath(__file__)))
PACKAGE = os.path.join(ROOT, "drawndeeds")

INTERFACE = {
    "errors": "DeedError BadTree BadText BadAct BadAsk UnknownName NoMember NoLot NoFace TooMany UnlikeLetters "
              "NothingDone",
    "words": "is_integer is_number is_name is_ahead",
    "books": "check_book check_deed check_word check_lot idle product done held reach rank is_settled",
    "heaps": "heap least_words number_of least_word right_steps left_steps",
    "heappapers": "heap_paper judge_heap shut_list judge_shut_list",
    "lots": "cut does_book tight_lots words_for side_by_side",
    "counts": "word_counts head_and_loop lengths has_length",
    "sheets": "check_sheet is_fraction letter_of part_of parts_of with_part without_part",
    "lexemes": "lexemes",
    "sheettexts": "read_sheet read_word sheet_text word_text",
    "comings": "coming_paper barring_paper judge_coming judge_barring kinds",
    "powers": "power lead_and_ring settled_power settled_members mending_paper judge_mending",
    "ranks": "meeting_pairs least_rank apart_places rank_paper judge_rank",
    "leastlots": "least_lot partings reaches turnings told_by member_of",
    "faces": "is_face all_faces out_paper judge_out least_face face_of_word face_of_member meet join members_of key",
    "lattice": "signed summed unsummed floors mark_row judge_marks",
    "letterlots": "lot_of held_number held_by_lots",
    "triangles": "triangle triangle_times judge_triangle",
    "unlike": "unlike_words judge_unlike",
    "speeds": "times judge_times times_cut times_together",
    "homecomings": "homecomings homecomings_by",
    "tables": "table_of member_table multiplied power_of trace_of",
    "coefficients": "coefficients_of least_coefficients done_on traces_of traces_by by_traces times_in by_roots",
    "atweights": "face_speeds speeds_at telling_weights full_sum judge_speeds",
    "alike": "pairs telling_word are_alike judge_telling likeness judge_likeness",
    "keptlots": "is_kept least_kept kept_lots book_of_lot rest_of pieces book_of_piece",
    "lumps": "is_kept_parting kept_with kept_partings joined common lumped",
    "ends": "comes_to way_into ends end_paper judge_end_paper",
    "resting": "does_rest end_share end_shares trees_into tree_sum",
    "coming": "comings means mean_back",
    "rounds": "round_of round_lots round_paper judge_round_paper",
    "meeting": "lead_pair first_meeting never_met judge_meeting judge_still",
    "leading": "led_lots first_to_one led_word judge_least",
    "sure": "sure_parting is_sure sure_paper unsure_paper judge_sure judge_unsure",
    "past": "led unled told mean_to_one mean_together",
    "needs": "need_chances need_of_whole mean_need",
    "fading": "is_fading fading_paper judge_fading_paper face_product clumps",
    "chains": "chains chain_chances chain_shares",
    "nears": "whole_chances distance",
    "rearranged": "tally_of rearranged_words judge_rearranged",
    "stairs": "stairs judge_stairs",
    "turnedtimes": "rings turned_times judge_turned turned_homecomings",
    "desk": "Desk",
    "console": "Console",
}
IN_CLASSES = {
    "Desk": "sheet act_word do undo redo acts size times faces is_fading is_turned held ends share speeds meeting work "
            "mark since marks twin",
    "Console": "answer",
}

BUILTINS = (
    "len range enumerate zip min max sum abs sorted reversed int str bool list tuple dict set isinstance ord repr any "
    "all divmod map ValueError").split()
METHODS = (
    "append clear copy count endswith extend find get index insert isalnum isalpha isdigit islower isspace isupper "
    "items join keys ljust lower lstrip partition pop remove replace reverse rfind rjust rpartition rsplit rstrip "
    "setdefault split splitlines startswith strip update upper values zfill bit_length isascii").split()
LIBRARY = {
    "heapq": ("heappush", "heappop", "heapify"), "math": ("gcd", "lcm", "isqrt", "comb"),
    "itertools": ("combinations", "permutations"), "collections": ("deque",)}
NO_NAMES = (
    "mro elements open input law version_info with_traceback add_note register attrgetter breakpoint builtins compile "
    "copyright credits delattr dir eval exec exit gc getattr globals hasattr help id importlib license locals "
    "methodcaller os quit setattr super type vars sys").split()
NO_WORDS = (
    "typing typing_extensions enum Enum IntEnum StrEnum Flag IntFlag Generic Protocol ABC ABCMeta namedtuple "
    "NamedTuple TypedDict TYPE_CHECKING abstractmethod dataclass overload contextmanager _wall _WallAttr").split()
STATEMENTS = (
    ast.FunctionDef, ast.ClassDef, ast.Return, ast.Assign, ast.AugAssign, ast.For, ast.While, ast.If, ast.Raise,
    ast.ImportFrom, ast.Expr, ast.Pass, ast.Break, ast.Continue, ast.Delete, ast.Try, ast.Assert)
CHANGING = ("append", "clear", "extend", "insert", "pop", "remove", "reverse", "setdefault", "update")


def files():
    """The names of the package's files, and their texts."""
    found = {}
    for name in sorted(os.listdir(PACKAGE)):
        if name != "__pycache__":
            with open(os.path.join(PACKAGE, name), encoding="utf-8", newline="") as file:
                found[name] = file.read()
    return found


def functions(tree):
    return [node for node in ast.walk(tree) if isinstance(node, ast.FunctionDef)]


def targets(node):
    """The names that a piece of code binds."""
    return [part.id for part in ast.walk(node) if isinstance(part, ast.Name) and not isinstance(part.ctx, ast.Load)]


def parameters(function):
    told = function.args
    return [arg.arg for arg in told.posonlyargs + told.args + told.kwonlyargs]


def imports(tree):
    return [node for node in tree.body if isinstance(node, ast.ImportFrom)]


class Form(unittest.TestCase):
    @classmethod
    def setUpClass(cls):
        cls.texts = files()
        cls.trees = {name: ast.parse(text) for name, text in cls.texts.items()}

    def each(self, kinds):
        for name, tree in self.trees.items():
            for node in ast.walk(tree):
                if isinstance(node, kinds):
                    yield f"{name}:{getattr(node, 'lineno', 0)}", node

    def test_files(self):
        for name in self.texts:
            self.assertRegex(name, r"^(__init__|[a-z][a-z0-9_]*)\.py$")
        self.assertLessEqual(len(self.texts), 100)
        self.assertEqual(ast.dump(ast.Module(self.trees["__init__.py"].body[1:], [])), ast.dump(ast.Module([], [])))

    def test_signs_and_sizes(self):
        for name, text in self.texts.items():
            self.assertTrue(all(" " <= sign <= "~" or sign == "\n" for sign in text), name)
            rows = text.split("\n")
            self.assertLessEqual(len(rows), 399, name)
            self.assertLessEqual(max(len(row) for row in rows), 120, name)
            self.assertTrue(text.endswith("\n") and not text.endswith("\n\n"), name)
            self.assertFalse([row for row in rows if row != row.rstrip()], name)
            for function in functions(self.trees[name]):
                self.assertLessEqual(function.end_lineno - function.lineno + 1, 40, f"{name}: {function.name}")
                self.assertTrue(ast.get_docstring(function) or function.name == "__init__", function.name)

    def test_interface_is_defined_where_it_is_listed(self):
        for name, told in INTERFACE.items():
            defined = [node.name for node in self.trees[name + ".py"].body
                       if isinstance(node, (ast.FunctionDef, ast.ClassDef))]
            self.assertEqual(set(told.split()) - set(defined), set(), name)

    def test_methods_are_defined_in_their_classes(self):
        nodes = [node for tree in self.trees.values() for node in tree.body]
        found = {node.name: node for node in nodes if isinstance(node, ast.ClassDef)}
        for name, told in IN_CLASSES.items():
            defined = [node.name for node in found[name].body if isinstance(node, ast.FunctionDef)]
            self.assertEqual(set(told.split()) - set(defined), set(), name)
            self.assertEqual(len(defined), len(set(defined)), name)
        for node in found.values():
            methods = [part.name for part in node.body if isinstance(part, ast.FunctionDef)]
            stored = [part.attr for part in ast.walk(node) if isinstance(part, ast.Attribute)
                      and isinstance(part.ctx, ast.Store)]
            self.assertEqual(set(methods) & set(stored), set(), node.name)

    def test_module_level(self):
        for name, tree in self.trees.items():
            self.assertIsNotNone(ast.get_docstring(tree), name)
            bound = []
            for node in tree.body[1:]:
                self.assertIsInstance(node, (ast.ImportFrom, ast.FunctionDef, ast.ClassDef, ast.Assign), name)
                if isinstance(node, ast.ImportFrom):
                    bound += [part.name for part in node.names]
                elif isinstance(node, ast.Assign):
                    self.assertEqual([target.__class__ for target in node.targets], [ast.Name], name)
                    bound.append(node.targets[0].id)
                    self.assertFalse([n for n in ast.walk(node.value) if isinstance(n, ast.Call)], name)
                else:
                    bound.append(node.name)
            self.assertEqual(len(bound), len(set(bound)), name)

    def test_imports(self):
        tops = {}
        for name, tree in self.trees.items():
            for node in imports(tree):
                self.assertEqual(node.level, 0)
                self.assertFalse([part for part in node.names if part.asname], name)
                told = [part.name for part in node.names]
                if node.module in LIBRARY:
                    self.assertEqual([word for word in told if word not in LIBRARY[node.module]], [], name)
                    continue
                package, file = node.module.split(".")
                self.assertEqual(package, "drawndeeds")
                tops.setdefault(name, []).append(file + ".py")
                there = [part.name for part in self.trees[file + ".py"].body
                         if isinstance(part, (ast.FunctionDef, ast.ClassDef))]
                there += [part.targets[0].id for part in self.trees[file + ".py"].body if isinstance(part, ast.Assign)]
                self.assertEqual([word for word in told if word not in there], [], name)
        done = []
        while len(done) < len(self.trees):
            more = [name for name in self.trees
                    if name not in done and all(other in done for other in tops.get(name, []))]
            self.assertTrue(more, "files import from each other")
            done += more

    def test_imports_are_used(self):
        for name, tree in self.trees.items():
            used = {node.id for node in ast.walk(tree) if isinstance(node, ast.Name)}
            for node in imports(tree):
                self.assertEqual([part.name for part in node.names if part.name not in used], [], name)

    def test_statements(self):
        for place, node in self.each(ast.stmt):
            self.assertIsInstance(node, STATEMENTS, place)
        for place, node in self.each((ast.FunctionDef, ast.ClassDef)):
            self.assertEqual(node.decorator_list, [], place)
        for place, node in self.each((ast.Lambda, ast.GeneratorExp, ast.Starred, ast.Yield, ast.YieldFrom,
                                      ast.NamedExpr, ast.SetComp, ast.Set)):
            self.fail(f"{place}: {node}")

    def test_errors(self):
        for place, node in self.each(ast.Raise):
            self.assertIsInstance(node.exc, ast.Call, place)
            self.assertIsNone(node.cause, place)
            self.assertIn(node.exc.func.id, INTERFACE["errors"].split(), place)
        for place, node in self.each(ast.ExceptHandler):
            self.assertIn(node.type.id, INTERFACE["errors"].split(), place)

    def test_names(self):
        builtin = set(dir(__builtins__) if not isinstance(__builtins__, dict) else __builtins__)
        for name, tree in self.trees.items():
            imported = [part.name for node in imports(tree) for part in node.names]
            classes = [node.name for node in tree.body if isinstance(node, ast.ClassDef)]
            own = [node.name for node in tree.body if isinstance(node, ast.FunctionDef)]
            for function in functions(tree):
                local = targets(function) + parameters(function)
                for word in local:
                    self.assertNotIn(word, list(builtin) + imported + classes + own + NO_NAMES, f"{name}: {word}")
            for node in ast.walk(tree):
                if isinstance(node, (ast.FunctionDef, ast.ClassDef)) and node.name != "__init__":
                    self.assertNotIn(node.name, list(builtin) + NO_NAMES, name)
                    self.assertFalse(node.name.startswith("_"), name)
                if isinstance(node, ast.Name):
                    self.assertRegex(node.id, r"^([a-zA-Z][a-zA-Z0-9_]*|_)$")
                    self.assertFalse(node.id == "_" and isinstance(node.ctx, ast.Load), f"{name}: _ is read")

    def test_words(self):
        for name, text in self.texts.items():
            for word in NO_WORDS:
                self.assertNotRegex(text, rf"\b{word}\b", name)
            self.assertNotRegex(text, r"\btype\b", name)

    def test_calls(self):
        own = [part.name for tree in self.trees.values() for node in tree.body if isinstance(node, ast.ClassDef)
               for part in node.body if isinstance(part, ast.FunctionDef)]
        for name, tree in self.trees.items():
            known = [node.name for node in tree.body if isinstance(node, (ast.FunctionDef, ast.ClassDef))]
            known += [part.name for node in imports(tree) for part in node.names]
            for function in functions(tree):
                local = targets(function) + parameters(function)
                for node in ast.walk(function):
                    if not isinstance(node, ast.Call):
                        continue
                    if isinstance(node.func, ast.Attribute):
                        self.assertIn(node.func.attr, METHODS + own, f"{name}:{node.lineno}")
                        self.assertEqual(node.keywords, [], f"{name}:{node.lineno}")
                    else:
                        self.assertIn(node.func.id, known + BUILTINS + local, f"{name}:{node.lineno}")

    def test_values(self):
        for place, node in self.each(ast.Constant):
            self.assertNotIsInstance(node.value, (float, complex, bytes), place)
            if isinstance(node.value, str):
                self.assertNotIn(chr(37), node.value, place)
        for place, node in self.each(ast.BinOp):
            self.assertNotIsInstance(node.op, (ast.Div, ast.MatMult), place)
            if isinstance(node.op, ast.Pow):
                self.assertIsInstance(node.right, ast.Constant, place)
        for place, node in self.each(ast.Compare):
            for op, side in zip(node.ops, node.comparators):
                if isinstance(op, (ast.Is, ast.IsNot)):
                    self.assertIn(getattr(side, "value", 0), (None, True, False), place)

    def test_sets_are_used_on_the_spot(self):
        for name, tree in self.trees.items():
            within = [part for node in ast.walk(tree) if isinstance(node, ast.Call) and isinstance(node.func, ast.Name)
                      and node.func.id in ("sorted", "len") for part in node.args]
            for node in ast.walk(tree):
                if isinstance(node, ast.Call) and isinstance(node.func, ast.Name) and node.func.id == "set":
                    self.assertIn(node, within, f"{name}:{node.lineno}")

    def test_views_are_iterated_at_once(self):
        spots = ("list", "tuple", "dict", "sorted", "sum", "any", "all", "enumerate", "zip", "min", "max", "len",
                 "reversed", "join")
        for name, tree in self.trees.items():
            right = []
            for node in ast.walk(tree):
                if isinstance(node, (ast.For, ast.comprehension)):
                    right.append(node.iter)
                if isinstance(node, ast.Call):
                    called = getattr(node.func, "id", getattr(node.func, "attr", ""))
                    if called in spots:
                        right += node.args
            for node in ast.walk(tree):
                if isinstance(node, ast.Call):
                    called = getattr(node.func, "id", getattr(node.func, "attr", ""))
                    if called in ("range", "zip", "enumerate", "reversed", "items", "keys", "values", "map"):
                        self.assertIn(node, right, f"{name}:{node.lineno}")

    def test_what_a_loop_goes_over_is_not_changed_in_it(self):
        for name, tree in self.trees.items():
            for loop in ast.walk(tree):
                if not isinstance(loop, ast.For):
                    continue
                over = {part.id for part in ast.walk(loop.iter) if isinstance(part, ast.Name)}
                for node in ast.walk(ast.Module(loop.body, [])):
                    changed = None
                    if isinstance(node, ast.Call) and isinstance(node.func, ast.Attribute) \
                            and node.func.attr in CHANGING:
                        changed = node.func.value
                    if isinstance(node, ast.Subscript) and not isinstance(node.ctx, ast.Load):
                        changed = node.value
                    if isinstance(changed, ast.Name):
                        self.assertNotIn(changed.id, over, f"{name}:{node.lineno}")

    def test_no_state_at_module_level(self):
        for name, tree in self.trees.items():
            for node in tree.body:
                if isinstance(node, ast.Assign):
                    self.assertTrue(node.targets[0].id.isupper(), name)
            tables = [node.targets[0].id for node in tree.body if isinstance(node, ast.Assign)
                      and isinstance(node.value, (ast.List, ast.Dict))]
            indexed = [node.value for node in ast.walk(tree) if isinstance(node, ast.Subscript)]
            indexed += [side for node in ast.walk(tree) if isinstance(node, ast.Compare)
                        and isinstance(node.ops[0], ast.In) for side in node.comparators]
            for node in ast.walk(tree):
                if isinstance(node, ast.Name) and node.id in tables and isinstance(node.ctx, ast.Load):
                    self.assertIn(node, indexed, f"{name}:{node.lineno}")


if __name__ == "__main__":
    unittest.main()
