"""The form of the package: the rules of the language that a look at the files can check, and the interface."""

import ast
import builtins
import os
import unittest

ROOT = os.path.dirname(os.path.dirname(os.path.abspath(__file__)))
FOLDER = os.path.join(ROOT, "worldsalone")

INTERFACE = {
    "books": {
        "is_name": "thing",
        "Book": "registers primitives causes ports instructions",
        "Book.registers": "", "Book.primitives": "", "Book.causes": "", "Book.ports": "", "Book.instructions": "",
        "Book.arity": "name", "Book.instruction": "name", "Book.cause_number": "name", "Book.cause_name": "number",
        "Book.__eq__": "other",
    },
    "meanings": {
        "Meaning": "book places pages tables entries code",
        "Meaning.book": "", "Meaning.places": "", "Meaning.pages": "", "Meaning.words": "", "Meaning.is_word": "thing",
        "Meaning.page": "address", "Meaning.place": "address", "Meaning.next": "address", "Meaning.apply": "name args",
        "Meaning.entry": "word", "Meaning.code_of": "word", "Meaning.words_of": "instruction registers",
        "Meaning.__eq__": "other",
    },
    "texts": {
        "book_text": "book", "read_book": "text", "words_text": "meaning words", "read_words": "meaning text",
    },
    "machines": {
        "Machine": "meaning frames registers pc specials is_out lines outs answers arrivals count",
        "Machine.meaning": "", "Machine.frames": "", "Machine.registers": "", "Machine.pc": "", "Machine.specials": "",
        "Machine.is_out": "", "Machine.lines": "", "Machine.outs": "", "Machine.answers": "", "Machine.arrivals": "",
        "Machine.count": "", "Machine.word": "frame place", "Machine.special": "name", "Machine.is_user": "",
        "Machine.__eq__": "other",
        "fresh": "meaning frames registers pc specials", "answered": "machine port word", "arrived": "machine line",
        "poked": "machine frame place word",
    },
    "steps": {
        "step": "machine", "run": "machine steps", "due": "machine", "emulated": "machine",
        "trapped": "machine cause address", "passed": "machine registers pc",
    },
    "bare": {
        "Box": "meaning frames specials answers",
        "Box.meaning": "", "Box.frames": "", "Box.specials": "", "Box.answers": "", "Box.outs": "",
        "Box.peek": "frame place", "Box.poke": "frame place word", "Box.special": "name", "Box.set_special": "name word",
        "Box.give": "port word", "Box.bare": "mapping registers pc", "Box.__eq__": "other",
        "box_of": "machine",
    },
    "tables": {
        "table_cell": "meaning frames table page", "frame_of": "meaning frames table page",
        "rights_at": "meaning frames table is_user page",
        "translated": "meaning frames table is_user address right",
    },
    "mappings": {
        "Mapping": "", "Mapping.__len__": "", "Mapping.entry": "page", "Mapping.as_dict": "",
        "Mapping.widen": "page box_frame right cell", "Mapping.fall_by_cell": "cell",
        "Mapping.fall_by_box_frame": "box_frame", "Mapping.fall_writing": "box_frame", "Mapping.fall_all": "",
        "Mapping.twin": "", "Mapping.__eq__": "other",
        "limit_of": "table copied closed frame", "wanted": "machine copied closed address right",
        "first_untrue": "mapping machine holders copied closed",
    },
    "stock": {
        "Stock": "box frames",
        "Stock.open_world": "contents", "Stock.close_world": "w", "Stock.worlds": "", "Stock.many": "w",
        "Stock.where": "w frame", "Stock.frame_words": "w frame", "Stock.lying": "g", "Stock.free": "", "Stock.full": "",
        "Stock.read": "w frame place", "Stock.write": "w frame place word", "Stock.put_out": "w frame",
        "Stock.brought": "w frame is_writing kept", "Stock.can_bring": "w frame is_writing kept",
        "Stock.make_copy": "w frame words", "Stock.drop_copy": "w frame", "Stock.copies": "w",
    },
    "sharing": {
        "share_alike": "stock", "groups": "stock", "least_full": "stock",
    },
    "copies": {
        "stop_words": "meaning", "stop_word": "meaning", "doubtful_places": "meaning doubted words",
        "copied_words": "meaning doubted words",
        "Copies": "meaning doubted", "Copies.patch": "frame", "Copies.end": "frame", "Copies.copied": "",
        "Copies.closed": "", "Copies.is_covered": "frame words", "Copies.twin": "", "Copies.__eq__": "other",
    },
    "host": {
        "Host": "box frames doubted", "Host.open_world": "machine", "Host.do": "choice", "Host.worlds": "",
        "Host.machine": "w", "Host.counts": "w", "Host.mapping": "w", "Host.copies": "w", "Host.where": "w frame",
        "Host.world_word": "w frame place", "Host.world_special": "w name", "Host.write_word": "w frame place word",
        "Host.take_over": "w machine", "Host.bring_frame": "w frame is_writing kept", "Host.box": "", "Host.log": "",
    },
    "choices": {
        "is_choice": "value", "can_do": "host choice", "do_all": "host choices",
    },
    "questions": {
        "stands": "book name mode branch question", "answers": "book name mode branch question",
        "compared": "book name mode branch term other",
    },
    "walks": {
        "verdict": "book name mode branch",
    },
    "deciding": {
        "decide_mode": "book name mode", "decide": "book", "is_right": "book name mode",
    },
    "papers": {
        "first_wrong": "book name mode paper", "judge_papers": "book papers",
    },
    "starts": {
        "judge_start": "book name mode start",
    },
    "careful": {
        "sound_list": "book", "careful_choice": "host w", "careful_step": "host w",
    },
    "nested": {
        "WorldBox": "host w",
        "WorldBox.meaning": "", "WorldBox.frames": "", "WorldBox.specials": "", "WorldBox.answers": "",
        "WorldBox.outs": "", "WorldBox.peek": "frame place", "WorldBox.poke": "frame place word",
        "WorldBox.special": "name", "WorldBox.set_special": "name word", "WorldBox.give": "port word",
        "WorldBox.bare": "mapping registers pc",
        "together": "host w mapping", "ways": "host w", "depth": "box",
    },
    "saved": {
        "saved_machine": "machine", "restored_machine": "meaning data", "packed": "data", "unpacked": "meaning numbers",
        "difference": "early late", "applied": "meaning early changes", "joined": "first last", "saved": "host world",
        "restored": "host data",
    },
    "moving": {
        "Moving": "host world other", "Moving.due": "", "Moving.send": "many", "Moving.sendings": "", "Moving.finish": "",
        "moved": "host world other pace most rounds",
    },
    "logs": {
        "Log": "machine", "Log.answer": "port word count", "Log.arrive": "line count", "Log.start": "",
        "Log.entries": "", "Log.machine_at": "count", "Log.__eq__": "other",
        "log_of": "host world", "replayed": "host log count", "holds": "machine watch",
        "first_when": "log watch limit", "last_change": "log frame place count", "apart_at": "one other limit",
    },
    "worlds": {
        "alone": "machine w choices", "alone_told": "machine w choices",
    },
}

STATEMENTS = (
    ast.FunctionDef, ast.ClassDef, ast.Return, ast.Assign, ast.AugAssign, ast.For, ast.While, ast.If, ast.Raise,
    ast.ImportFrom, ast.Expr, ast.Pass, ast.Break, ast.Continue, ast.Delete, ast.Try,
)
EXPRESSIONS = (
    ast.BoolOp, ast.BinOp, ast.UnaryOp, ast.IfExp, ast.Dict, ast.ListComp, ast.DictComp, ast.SetComp, ast.Compare, ast.Call,
    ast.FormattedValue, ast.JoinedStr, ast.Constant, ast.Attribute, ast.Subscript, ast.Starred, ast.Name, ast.List,
    ast.Tuple, ast.Slice,
)
BUILTINS = (
    "len range enumerate zip min max sum abs sorted reversed int str bool list tuple dict set isinstance ord repr"
    " any all divmod Exception ValueError LookupError"
).split()
METHODS = (
    "append clear copy count endswith extend find get index insert items join keys ljust lower lstrip partition pop"
    " remove replace reverse rfind rjust rstrip setdefault split startswith strip update upper values zfill"
).split()
ATTRIBUTES = (
    "name word path place limit number machine_kept mapped patched steps fills emulations question draft outcome"
).split()
BARRED = (
    "register mro elements open input law type typing enum Enum Flag Generic Protocol ABC namedtuple NamedTuple"
).split()


def files():
    """The pairs of the name and the text of each file of the package."""
    found = []
    for name in sorted(os.listdir(FOLDER)):
        if name != "__pycache__":
            with open(os.path.join(FOLDER, name), encoding="utf-8") as file:
                found.append((name, file.read()))
    return found


def trees():
    """The dict from the names of the modules to their trees."""
    return {name[:-3]: ast.parse(text) for name, text in files()}


def bound_at_top(tree):
    """The names that a module defines at module level, without its imports."""
    found = []
    for row in tree.body:
        if isinstance(row, (ast.FunctionDef, ast.ClassDef)):
            found.append(row.name)
        if isinstance(row, ast.Assign):
            found.extend([target.id for target in row.targets])
    return found


def local_names(tree):
    """The names of all parameters and local variables of a module."""
    params = [node.arg for node in ast.walk(tree) if isinstance(node, ast.arg)]
    stored = [node.id for node in ast.walk(tree) if isinstance(node, ast.Name) and isinstance(node.ctx, ast.Store)]
    return params + stored


class Files(unittest.TestCase):
    def test_signs_and_sizes(self):
        for name, text in files():
            self.assertTrue(name.endswith(".py") and name == name.lower(), name)
            self.assertTrue(all(sign == "\n" or " " <= sign <= "~" for sign in text), name)
            lines = text.split("\n")
            self.assertLessEqual(len(lines), 400, name)
            for line in lines:
                self.assertLessEqual(len(line), 120, (name, line))
                self.assertEqual(line, line.rstrip(), name)

    def test_functions_are_small(self):
        for name, tree in trees().items():
            for node in ast.walk(tree):
                if isinstance(node, ast.FunctionDef):
                    self.assertLessEqual(node.end_lineno - node.lineno + 1, 40, (name, node.name))
                    self.assertEqual(node.decorator_list, [])

    def test_parts_of_the_language(self):
        for name, tree in trees().items():
            for node in ast.walk(tree):
                if isinstance(node, ast.stmt):
                    self.assertIsInstance(node, STATEMENTS, (name, node.lineno))
                if isinstance(node, ast.expr):
                    self.assertIsInstance(node, EXPRESSIONS, (name, node.lineno))
                if isinstance(node, ast.Constant) and isinstance(node.value, str):
                    self.assertNotIn("%", node.value, name)
                if isinstance(node, ast.Constant):
                    self.assertNotIsInstance(node.value, (float, complex, bytes), name)

    def test_module_level(self):
        for name, tree in trees().items():
            self.assertTrue(ast.get_docstring(tree), name)
            for row in tree.body[1:]:
                self.assertIsInstance(row, (ast.ImportFrom, ast.FunctionDef, ast.ClassDef, ast.Assign), name)
                if isinstance(row, ast.Assign):
                    self.assertFalse([node for node in ast.walk(row) if isinstance(node, ast.Call)], (name, row.lineno))
            top = bound_at_top(tree)
            self.assertEqual(len(top), len(set(top)), name)
            for node in ast.walk(tree):
                if isinstance(node, (ast.FunctionDef, ast.ClassDef)) and not node.name.startswith("__"):
                    self.assertTrue(ast.get_docstring(node), (name, node.name))

    def test_imports(self):
        found = trees()
        for name, tree in found.items():
            for node in ast.walk(tree):
                if isinstance(node, ast.ImportFrom):
                    self.assertTrue(node.module.startswith("worldsalone.") and node.level == 0, name)
                    defined = bound_at_top(found[node.module.split(".")[1]])
                    for alias in node.names:
                        self.assertIsNone(alias.asname)
                        self.assertIn(alias.name, defined, name)
                        self.assertNotIn(alias.name, local_names(tree), name)
                        uses = [use for use in ast.walk(tree) if isinstance(use, ast.Name) and use.id == alias.name]
                        self.assertTrue(uses, (name, alias.name))

    def test_no_file_imports_itself_through_others(self):
        leads = {}
        for name, tree in trees().items():
            told = [node.module.split(".")[1] for node in ast.walk(tree) if isinstance(node, ast.ImportFrom)]
            leads[name] = set(told)
        for _ in leads:
            leads = {name: told.union(*[leads[other] for other in told]) for name, told in leads.items()}
        for name, told in leads.items():
            self.assertNotIn(name, told)

    def test_builtins(self):
        for name, tree in trees().items():
            for node in ast.walk(tree):
                if isinstance(node, ast.Name) and isinstance(node.ctx, ast.Load) and hasattr(builtins, node.id):
                    self.assertIn(node.id, BUILTINS, name)
            for told in bound_at_top(tree) + local_names(tree):
                self.assertFalse(hasattr(builtins, told), (name, told))

    def test_handlers_name_own_errors(self):
        found = trees()
        own = [node.name for tree in found.values() for node in ast.walk(tree) if isinstance(node, ast.ClassDef)]
        for name, tree in found.items():
            for node in ast.walk(tree):
                if isinstance(node, ast.ExceptHandler):
                    self.assertIn(getattr(node.type, "id", None), own, (name, node.lineno))
                if isinstance(node, ast.Raise):
                    self.assertIn(node.exc.func.id, own, (name, node.lineno))
                if isinstance(node, ast.Try):
                    self.assertEqual((node.orelse, node.finalbody), ([], []), (name, node.lineno))

    def test_names(self):
        found = trees()
        own = [node.name for tree in found.values() for node in ast.walk(tree) if isinstance(node, ast.FunctionDef)]
        for name, tree in found.items():
            for node in ast.walk(tree):
                told = getattr(node, "id", None) or getattr(node, "attr", None) or getattr(node, "name", None)
                self.assertNotIn(told, BARRED, name)
                if isinstance(node, ast.Attribute) and not node.attr.startswith("_"):
                    self.assertIn(node.attr, METHODS + own + ATTRIBUTES, name)

    def test_module_level_lists_and_dicts_are_only_read(self):
        found = trees()
        tables = [
            row.targets[0].id
            for tree in found.values()
            for row in tree.body
            if isinstance(row, ast.Assign) and isinstance(row.value, (ast.Dict, ast.List))
        ]
        self.assertIn("ROW_FORMS", tables)
        for name, tree in found.items():
            for node in ast.walk(tree):
                if isinstance(node, ast.Call) and getattr(node.func, "id", None) not in ("len", "sorted", "list", "dict"):
                    passed = [told.id for told in node.args if isinstance(told, ast.Name)]
                    for told in tables:
                        self.assertNotIn(told, passed, name)
                if isinstance(node, (ast.Return, ast.Assign)) and isinstance(node.value, ast.Name):
                    self.assertNotIn(node.value.id, tables, name)


class Interface(unittest.TestCase):
    def params(self, node):
        """The parameters of a function, or of the making of a class, without self."""
        if isinstance(node, ast.ClassDef):
            node = [row for row in node.body if getattr(row, "name", None) == "__init__"][0]
        told = node.args
        self.assertEqual((told.vararg, told.kwarg, told.kwonlyargs, told.posonlyargs, told.defaults), (None, None, [], [], []))
        return [param.arg for param in told.args if param.arg != "self"]

    def test_everything_stands_in_its_file(self):
        found = trees()
        for module, told in INTERFACE.items():
            defined = {}
            for row in found[module].body:
                if isinstance(row, (ast.FunctionDef, ast.ClassDef)):
                    defined[row.name] = row
                if isinstance(row, ast.ClassDef):
                    defined.update({f"{row.name}.{part.name}": part for part in row.body if hasattr(part, "name")})
            for name, params in told.items():
                self.assertIn(name, defined, module)
                self.assertEqual(self.params(defined[name]), params.split(), (module, name))

    def test_specials_stand_in_their_file(self):
        self.assertIn("SPECIALS", bound_at_top(trees()["machines"]))


if __name__ == "__main__":
    unittest.main()
