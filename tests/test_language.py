"""The rules of ../shared/LANGUAGE.md that a test can see, and the places that the interface gives to its names."""

import ast
import builtins
import importlib
import inspect
import os
import re
import unittest

import keptopen

FOLDER = os.path.dirname(keptopen.__file__)
FILES = sorted(name for name in os.listdir(FOLDER) if name != "__pycache__")
SOURCES = {}
for file_name in FILES:
    with open(os.path.join(FOLDER, file_name), encoding="utf-8", newline="") as file:
        SOURCES[file_name[:-3]] = file.read()
TREES = {name: ast.parse(text) for name, text in SOURCES.items()}

# What the interface lists.
INTERFACE = {
    "errors": {
        "InvalidPaper": "word at", "NotUsable": "word at", "InvalidEvent": "event reason", "NothingToUndo": "steps",
        "Barred": "event things", "InvalidText": "line field", "InvalidRow": "row",
    },
    "kinds": {"is_integer": "thing", "is_number": "thing", "is_name": "thing", "is_chests": "thing"},
    "hallchecker": {"lets_hall": "thing"},
    "hallparts": {"size_of": "hall chest", "seals_of": "hall chest", "gates_of": "hall"},
    "hallchanges": {"with_seal": "hall seal", "without_seal": "hall index", "renamed": "hall *pairs"},
    "halltexts": {"hall_text": "hall", "chests_words": "chests"},
    "hallreadings": {"hall_read": "text", "chests_read": "text"},
    "halls": {"Hall": "chests sizes *seals"},
    "fillingchecker": {"lets_filling": "hall thing"},
    "fillings": {
        "broken_by": "hall filling", "is_sound": "hall filling", "fitting": "hall filling chest", "parts_of": "hall filling",
    },
    "wholes": {
        "whole_fillings": "hall", "many_wholes": "hall", "some_whole": "hall", "held_things": "hall chest", "sure_things": "hall",
    },
    "handfuls": {"Handful": "hall filling", "Shut": "hall"},
    "plays": {"moves": "hall m", "grasp": "hall"},
    "families": {"family": "hall m", "is_family": "hall m thing"},
    "familyparts": {"whole_family": "hall m filling", "cut_family": "hall m family less"},
    "playpapers": {"play_paper": "hall m"},
    "playchecker": {"lets_play": "hall m thing"},
    "keepers": {"Keeper": "hall m"},
    "asktrees": {"least_depth": "hall", "least_leaves": "hall", "ask_tree": "hall", "lean_tree": "hall"},
    "askchecker": {"lets_tree": "hall thing"},
    "askways": {"leaves_of": "hall tree", "leaf_for": "hall tree filling"},
    "askchanges": {"order_tree": "hall order", "pruned_tree": "hall tree"},
    "askrows": {"rows_of_tree": "hall tree", "tree_of_rows": "hall rows"},
    "quests": {"Quest": "hall tree"},
    "webchecker": {"lets_web": "thing"},
    "webparts": {"neighbors": "web chest", "parts_without": "web lot", "web_of": "hall"},
    "bagchecker": {"lets_bags": "web thing"},
    "bags": {"size_of_web": "web", "tree_of_bags": "web"},
    "thickets": {"thicket": "web m"},
    "webpapers": {"web_paper": "web m"},
    "webpaperchecker": {"lets_thicket": "web m thing", "lets_size": "web m thing"},
    "webs": {"Web": "chests *gates"},
    "bybags": {
        "many_by": "hall bags", "some_by": "hall bags", "counts_at": "hall bags first index", "dead_at": "hall bags first index",
    },
    "deadpapers": {"dead_paper": "hall bags first"},
    "deadchecker": {"lets_dead": "hall bags first thing"},
    "gluing": {"kept_by": "hall bags family", "moves_by": "hall bags first"},
    "walkers": {"Walker": "hall bags first"},
    "switched": {"switched_hall": "web odds", "setting_of": "web odds chest thing", "thing_of": "web odds chest bits"},
    "oddparts": {"odd_parts": "web odds", "least_switched": "web odds"},
    "settings": {
        "odds_of": "web bits", "turned_along": "web bits way", "some_settings": "web odds", "many_settings": "web odds",
        "filling_by": "web bits", "bits_by": "web odds filling",
    },
    "settingpapers": {"settings_paper": "web odds"},
    "settingchecker": {"lets_settings": "web odds thing"},
    "hiding": {"hide": "web lots lot", "switched_family": "web odd m lots"},
    "switches": {"Switches": "web odds"},
    "gamelogs": {"is_log": "thing"},
    "games": {"Game": "hall m"},
    "guarded": {"Sure": "hall m"},
    "gameruns": {"game_through": "game events"},
    "replaying": {"replayed": "log"},
    "eventtexts": {"event_line": "event", "log_lines": "log"},
    "eventreadings": {"read_event": "line", "read_log": "lines"},
    "desk": {"Desk": ""},
}
METHODS = {
    ("halls", "Hall"): {"size": "chest", "gates": "", "called": "*pairs", "__call__": "chest", "of": "hall", "read": "text"},
    ("handfuls", "Handful"): {
        "given": "chest thing", "without": "chest", "cut_to": "lot", "ways": "", "__call__": "chest", "of": "hall *pairs",
    },
    ("keepers", "Keeper"): {
        "things_for": "filling chest", "moves_from": "filling", "next_look": "filling", "with_m": "m",
    },
    ("quests", "Quest"): {
        "__call__": "filling", "pruned": "", "listed": "", "least": "hall", "lean": "hall", "ordered": "hall order",
    },
    ("webs", "Web"): {
        "least_size": "", "tree": "", "thicket_for": "m", "paper_for": "m", "of": "web", "__call__": "lot", "without": "chest",
        "joined": "gate",
    },
    ("walkers", "Walker"): {"state": "", "wanted": "", "look": "thing", "undo": ""},
    ("switches", "Switches"): {
        "hall_made": "", "parts_odd": "", "least_m": "", "many_bits": "", "__call__": "bits", "moved": "way", "solved": "", "paper": "",
        "judged": "thing", "kept_for": "m lots",
    },
    ("games", "Game"): {
        "state": "", "advice": "", "things_now": "chest", "look": "chest thing", "shut": "chest", "apply": "event", "barred": "event",
        "tried": "*events", "undo": "", "do_all": "*events keep=False", "tally": "", "log": "",
    },
    ("guarded", "Sure"): {"barred": "event"},
    ("desk", "Desk"): {"say": "row", "counts": ""},
}
# The methods and functions that change an object, by class, those of no class under None; all others change nothing.
CHANGERS = {
    "Walker": ("look", "undo"),
    "Game": ("look", "shut", "apply", "undo", "do_all", "_counted"),
    "Desk": ("say", "_answer"),
    None: ("game_after", "game_through", "game_answer", "plain_answer"),
}

ALLOWED = set(
    "len range enumerate zip min max sum abs sorted reversed int str bool list tuple dict set isinstance ord repr any all"
    " divmod iter property classmethod staticmethod super ValueError TypeError".split()
)
BUILTIN_METHODS = set(
    "append clear copy count endswith extend find get index insert isalnum isalpha isdigit islower isspace isupper items join"
    " keys ljust lower lstrip partition pop remove replace reverse rfind rjust rpartition rsplit rstrip setdefault split"
    " splitlines startswith strip update upper values zfill bit_length".split()
)
CHANGING = set("append clear extend insert pop remove reverse setdefault update add discard".split())
AT_ONCE = set("list tuple dict sorted sum any all enumerate zip min max".split())
BARRED_NAMES = set(
    "register mro elements open input law version_info with_traceback add_note attrgetter breakpoint builtins compile copyright"
    " credits delattr dir eval exec exit gc getattr globals hasattr help id importlib license locals methodcaller os quit setattr"
    " sys type vars".split()
)
BARRED_WORDS = (
    r"\b(typing|typing_extensions|enum|Enum|IntEnum|StrEnum|Flag|IntFlag|Generic|Protocol|ABC|ABCMeta|namedtuple|NamedTuple"
    r"|TypedDict|TYPE_CHECKING|abstractmethod|type)\b|dataclass|overload|contextmanager|_wall|_WallAttr|\(type\)|Meta|metaclass="
)
SPECIAL = set(
    "__init__ __eq__ __str__ __len__ __call__ __iter__ __add__ __sub__ __and__ __or__ __contains__ __getitem__".split()
)


def nodes(kind, tree=None):
    """All nodes of a kind, of one tree or of the whole package."""
    trees = TREES.values() if tree is None else [tree]
    return [node for one in trees for node in ast.walk(one) if isinstance(node, kind)]


def functions():
    """All functions and methods of the package."""
    return nodes(ast.FunctionDef)


def targets(function):
    """The nodes to which each local name is assigned, a dict by name."""
    found = {}
    for node in nodes(ast.Assign, function):
        for target in node.targets:
            if isinstance(target, ast.Name):
                found.setdefault(target.id, []).append(node.value)
    return found


class Files(unittest.TestCase):
    def test_files(self):
        self.assertIn("__init__.py", FILES)
        self.assertLessEqual(len(FILES), 100)
        for name in FILES:
            self.assertRegex(name, r"^[a-z0-9_]+\.py$")
            self.assertNotIn(name[:-3], dir(builtins))

    def test_characters_and_lengths(self):
        for name, text in SOURCES.items():
            self.assertTrue(all(char == "\n" or " " <= char <= "~" for char in text), name)
            self.assertTrue(text.endswith("\n"), name)
            lines = text.split("\n")[:-1]
            self.assertLessEqual(len(lines), 399, name)
            self.assertLessEqual(max(len(line) for line in lines), 120, name)
        for function in functions():
            self.assertLessEqual(function.end_lineno - function.lineno + 1, 40, function.name)

    def test_words(self):
        for name, tree in TREES.items():
            for node in ast.walk(tree):
                for field in ("id", "name", "attr", "arg"):
                    word = getattr(node, field, None)
                    if isinstance(word, str):
                        self.assertNotIn(word, BARRED_NAMES, name)
                        self.assertTrue(re.match(r"_?[a-zA-Z][a-zA-Z0-9_]*$|_$", word) or word in SPECIAL, word)
            for text in [node.value for node in nodes(ast.Constant, tree) if isinstance(node.value, str)]:
                self.assertNotIn("%", text)
            self.assertIsNone(re.search(BARRED_WORDS, SOURCES[name]), name)


class Modules(unittest.TestCase):
    def test_imports(self):
        order = {}
        for name, tree in TREES.items():
            self.assertEqual(nodes(ast.Import, tree), [])
            for node in nodes(ast.ImportFrom, tree):
                self.assertIn(node, tree.body)
                package, _, module = node.module.partition(".")
                self.assertEqual((package, node.level), ("keptopen", 0))
                order.setdefault(name, []).append(module)
                defined = {one.name for one in TREES[module].body if isinstance(one, (ast.FunctionDef, ast.ClassDef))}
                for alias in node.names:
                    self.assertIsNone(alias.asname)
                    self.assertIn(alias.name, defined)
                    uses = [use for use in nodes(ast.Name, tree) if use.id == alias.name]
                    self.assertTrue(uses, f"{name} does not use {alias.name}")
                    self.assertTrue(all(isinstance(use.ctx, ast.Load) for use in uses))
                    self.assertNotIn(alias.name, [arg.arg for arg in nodes(ast.arg, tree)])
        done = []
        while len(done) < len(TREES):
            fresh = [name for name in TREES if name not in done and all(one in done for one in order.get(name, []))]
            self.assertTrue(fresh, "files import from each other")
            done += fresh

    def test_module_level(self):
        for name, tree in TREES.items():
            self.assertIsNotNone(ast.get_docstring(tree), name)
            bound = []
            for node in tree.body[1:]:
                self.assertIsInstance(node, (ast.ImportFrom, ast.FunctionDef, ast.ClassDef, ast.Assign), name)
                if isinstance(node, ast.Assign):
                    self.assertIsInstance(node.value, ast.Constant)
                    bound.append(node.targets[0].id)
                elif isinstance(node, ast.ImportFrom):
                    bound += [alias.name for alias in node.names]
                else:
                    bound.append(node.name)
            self.assertEqual(len(bound), len(set(bound)), name)

    def test_names_of_builtins(self):
        for name, tree in TREES.items():
            own = {node.id for node in nodes(ast.Name, tree) if isinstance(node.ctx, ast.Store)}
            own |= {arg.arg for arg in nodes(ast.arg, tree)}
            own |= {node.name for node in tree.body if isinstance(node, (ast.FunctionDef, ast.ClassDef))}
            self.assertEqual(own & set(dir(builtins)), set(), name)
            own |= {alias.name for node in nodes(ast.ImportFrom, tree) for alias in node.names}
            used = {node.id for node in nodes(ast.Name, tree) if isinstance(node.ctx, ast.Load)}
            self.assertEqual(used - own - ALLOWED, set(), name)
            self.assertNotIn("_", used)

    def test_interface(self):
        for module, listed in INTERFACE.items():
            loaded = importlib.import_module("keptopen." + module)
            for name, parameters in listed.items():
                self.assertEqual(getattr(loaded, name).__module__, "keptopen." + module)
                self.assertEqual(self.parameters(getattr(loaded, name)), parameters)
        for (module, class_name), listed in METHODS.items():
            made = getattr(importlib.import_module("keptopen." + module), class_name)
            for name, parameters in listed.items():
                self.assertIn(name, vars(made))
                told = self.parameters(getattr(made, name)).replace("self", "").strip()
                self.assertEqual(told, parameters)

    def parameters(self, call):
        """The parameters of a function or a class, by spaces, with a star before one that takes any number."""
        told = inspect.signature(call).parameters.values()
        return " ".join([one.name if one.kind == one.POSITIONAL_OR_KEYWORD else str(one) for one in told])


class Statements(unittest.TestCase):
    def test_kinds_of_nodes(self):
        barred = (
            ast.GeneratorExp, ast.Lambda, ast.Global, ast.Nonlocal, ast.AnnAssign, ast.AsyncFunctionDef, ast.Await, ast.Div,
            ast.NamedExpr, ast.With, ast.Match, ast.Delete, ast.Pow, ast.Mod, ast.Assert, ast.MatMult,
        )
        self.assertEqual(nodes(barred), [])
        for node in nodes(ast.Constant):
            self.assertIsInstance(node.value, (int, str, type(None)))
        for function in functions():
            self.assertIsNone(function.returns)
            self.assertFalse([arg for arg in nodes(ast.arg, function) if arg.annotation])
            self.assertFalse([node for node in nodes(ast.FunctionDef, function) if node is not function])
            for decorator in function.decorator_list:
                self.assertIn(decorator.id, ("property", "classmethod", "staticmethod"))
        for node in nodes(ast.Starred):
            plain = node.value.value if isinstance(node.value, ast.Attribute) else node.value
            self.assertIsInstance(plain, ast.Name)
        for node in nodes(ast.Compare):
            for sign, right in zip(node.ops, node.comparators):
                if isinstance(sign, (ast.Is, ast.IsNot)):
                    self.assertIsInstance(right, ast.Constant)

    def test_only_own_errors_are_caught(self):
        own = {node.name for node in TREES["errors"].body if isinstance(node, ast.ClassDef)}
        for node in nodes(ast.Try):
            self.assertEqual(node.orelse, [])
            for handler in node.handlers:
                self.assertIn(handler.type.id, own)
                self.assertIsNone(handler.name)
            # What a finally may do is little: one attribute is given a name's value.
            for last in node.finalbody:
                self.assertIsInstance(last, ast.Assign)
                self.assertIsInstance(last.targets[0], ast.Attribute)
                self.assertIsInstance(last.value, ast.Name)

    def test_raises_make_their_errors(self):
        own = {node.name for node in TREES["errors"].body if isinstance(node, ast.ClassDef)}
        for node in nodes(ast.Raise):
            self.assertIsInstance(node.exc, ast.Call)
            self.assertIn(node.exc.func.id, own)

    def test_calls(self):
        own = {function.name for function in functions()}
        for node in nodes(ast.Call):
            if isinstance(node.func, ast.Attribute):
                self.assertIn(node.func.attr, BUILTIN_METHODS | own)
            else:
                self.assertIsInstance(node.func, ast.Name)
                words = [keyword.arg for keyword in node.keywords]
                if node.func.id in ALLOWED:
                    told = (node.func.id, words)
                    fine = told == ("enumerate", ["start"]) or (words == ["default"] and len(node.args) == 1)
                    self.assertTrue(words == [] or fine, node.func.id)

    def test_ranges_and_sets_are_used_at_once(self):
        right = [node.iter for node in nodes((ast.For, ast.comprehension))]
        members = []
        for call in nodes(ast.Call):
            if isinstance(call.func, ast.Name) and call.func.id in AT_ONCE:
                right += call.args if call.func.id == "zip" else call.args[:1]
            if isinstance(call.func, ast.Name) and call.func.id in ("sorted", "len"):
                members += call.args
        # Sets may be joined where they are used.
        for node in members:
            if isinstance(node, ast.BinOp):
                members += [node.left, node.right]
        for call in nodes(ast.Call):
            if isinstance(call.func, ast.Name):
                if call.func.id in ("range", "zip", "enumerate", "reversed"):
                    self.assertIn(call, right, call.func.id)
                if call.func.id == "set":
                    self.assertIn(call, members)
            elif call.func.attr in ("items", "keys", "values"):
                self.assertIn(call, right)
        for node in nodes((ast.Set, ast.SetComp)):
            self.assertIn(node, members)


class Changes(unittest.TestCase):
    """Only what CHANGERS names changes anything that it did not create, and no operator and no property calls it."""

    def test_operators_and_properties_call_no_changers(self):
        called = {}
        for function in functions():
            names = [call.func.id if isinstance(call.func, ast.Name) else call.func.attr for call in nodes(ast.Call, function)]
            called.setdefault(function.name, set()).update(names)
        operators = [one.name for one in functions() if one.name in SPECIAL and one.name not in ("__init__", "__call__")]
        waiting = operators + [one.name for one in functions() if [mark for mark in one.decorator_list if mark.id == "property"]]
        reached = set()
        while waiting:
            name = waiting.pop()
            if name not in reached:
                reached.add(name)
                waiting += called.get(name, ())
        self.assertEqual(reached & {name for names in CHANGERS.values() for name in names}, set())

    def test_only_own_lists_and_dicts_change(self):
        changers = [
            node
            for made in nodes((ast.ClassDef, ast.Module))
            for node in made.body
            if isinstance(node, ast.FunctionDef) and node.name in CHANGERS.get(getattr(made, "name", None), ())
        ]
        for function in functions():
            made = targets(function)
            changed = [node.func.value for node in nodes(ast.Call, function) if self.changes(node)]
            for node in nodes((ast.Assign, ast.AugAssign), function):
                places = node.targets if isinstance(node, ast.Assign) else [node.target]
                changed += [place.value for place in places if isinstance(place, ast.Subscript)]
                attributes = [place for place in places if isinstance(place, ast.Attribute)]
                self.assertTrue(not attributes or function.name == "__init__" or function in changers, function.name)
                if isinstance(node, ast.AugAssign):
                    self.assertIsInstance(node.value, ast.Constant)
            for node in changed:
                self.assertIsInstance(node, ast.Name)
                for value in made[node.id]:
                    self.assertIsInstance(value, (ast.List, ast.Dict, ast.ListComp), function.name)

    def changes(self, node):
        return isinstance(node.func, ast.Attribute) and node.func.attr in CHANGING

    def test_what_a_loop_goes_over_does_not_change(self):
        for loop in nodes((ast.For,)):
            over = {node.id for node in ast.walk(loop.iter) if isinstance(node, ast.Name)}
            for part in loop.body:
                for node in nodes(ast.Call, part):
                    if self.changes(node):
                        self.assertNotIn(node.func.value.id, over)
                for node in nodes((ast.Assign, ast.AugAssign), part):
                    for place in node.targets if isinstance(node, ast.Assign) else [node.target]:
                        if isinstance(place, ast.Subscript):
                            self.assertNotIn(place.value.id, over)


class Classes(unittest.TestCase):
    def test_special_methods(self):
        for made in nodes(ast.ClassDef):
            own = {node.name: node for node in made.body if isinstance(node, ast.FunctionDef)}
            self.assertEqual(len(own), len([node for node in made.body if isinstance(node, ast.FunctionDef)]))
            for name, node in own.items():
                if name.startswith("__"):
                    self.assertIn(name, SPECIAL)
                    self.assertEqual(node.decorator_list, [])
                if name == "__len__":
                    self.assertEqual(node.body[-1].value.func.id, "len")
                if name == "__str__":
                    self.assertEqual(node.body[-1].value.func.id, "str")
            if "__getitem__" in own:
                self.assertIn("__iter__", own)

    def test_names_of_methods_and_attributes(self):
        attributes = {node.attr for node in nodes(ast.Attribute) if isinstance(node.ctx, ast.Store)}
        generators = {function.name for function in functions() if nodes((ast.Yield, ast.YieldFrom), function)}
        self.assertEqual(generators, {"ways"})
        methods = [node for made in nodes(ast.ClassDef) for node in made.body if isinstance(node, ast.FunctionDef)]
        for method in methods:
            if method.decorator_list or method.name in generators:
                self.assertNotIn(method.name, attributes)
        self.assertEqual([function.name for function in functions()].count("ways"), 1)
        self.assertEqual(attributes & {"keys", "items", "values", "args", "format"}, set())


if __name__ == "__main__":
    unittest.main()
