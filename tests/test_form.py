"""The form of the package: what of the language's rules can be read off its files, and the interface."""

import ast
import builtins
import pathlib
import unittest

PACKAGE = pathlib.Path(__file__).resolve().parent.parent / "wholepoll"
LIBRARY = {"math": {"gcd", "lcm", "isqrt", "comb", "perm", "factorial"}}
BUILTINS = set(
    "len range enumerate zip min max sum abs sorted reversed int str bool list tuple dict set isinstance ord repr any all "
    "divmod super ValueError KeyError ZeroDivisionError NotImplemented".split()
)
METHODS = set(
    "append clear copy count endswith extend find get index insert isalnum isalpha isdigit islower isspace isupper items "
    "join keys ljust lower lstrip partition pop remove replace reverse rfind rjust rpartition rsplit rstrip setdefault "
    "split splitlines startswith strip update upper values zfill bit_length add discard __init__".split()
)
BARRED_WORDS = {
    "type", "typing", "enum", "Enum", "Flag", "Generic", "Protocol", "ABC", "namedtuple", "dataclass", "open", "input",
    "register", "mro", "elements", "law",
}

# By file: its functions with their parameters; its classes, each with its bases and its methods.
FUNCTIONS = {
    "wholes": {"is_whole": "thing", "divisor": "one other", "down": "top bottom", "up": "top bottom"},
    "ratios": {
        "fraction": "top bottom", "plus": "one other", "minus": "one other", "times": "one other", "parted": "one other",
        "total": "some", "under": "one other", "least_from": "one", "least_above": "one",
    },
    "words": {"is_word": "thing", "is_count": "thing most", "is_order": "thing many"},
    "sets": {
        "all_of": "hands", "with_one": "mask hand", "without": "mask hand", "holds": "mask hand", "size": "mask",
        "members": "mask",
    },
    "ballots": {"slip_of": "ranks hands", "ranks_of": "slip hands", "prefers": "slip x y", "lies": "slip standing"},
    "sheets": {
        "sheet_of": "lines", "joined": "sheets", "ballots_in": "sheet", "number_of": "sheet slip", "apart": "one other",
        "changed": "sheet change", "is_slip": "thing hands", "is_sheet": "thing hands",
    },
    "tellings": {
        "is_telling": "thing", "lives_by": "telling", "telling_key": "telling", "standing": "tellings",
        "clashing": "tellings",
    },
    "stretches": {
        "stretches": "roll voter", "moved": "roll before after wait", "sizes": "roll day wait",
        "touched": "roll telling day wait", "day_from": "roll voter area wait",
    },
    "envelopes": {"is_envelope": "thing hands", "are_rules": "thing", "standing_envelopes": "envelopes"},
    "admitted": {
        "verdicts": "roll rules envelopes struck", "verdict": "roll rules envelopes struck number",
        "counted": "roll rules envelopes struck", "mailed": "roll rules envelopes struck",
        "heard": "roll rules envelopes struck", "struck_turns": "roll rules envelopes struck number",
    },
    "codes": {"code_of": "line hands", "line_of": "code hands"},
    "seals": {"seal_of": "codes", "mended": "codes seal"},
    "published": {"is_listing": "thing hands", "fits": "listings votes", "listing_of": "votes voters"},
    "hidden": {
        "groups": "listings", "may_say": "listings voter", "newly_known": "listings listing", "clash": "listings",
        "how_many": "listings", "votes_with": "listings voter slip", "known": "listings",
    },
    "strong": {
        "overs": "sheet hands", "leads_of": "many", "strength": "leads", "way_between": "leads x y",
        "cut_between": "leads x y",
    },
    "lists": {"votes_of": "sheet hands"},
    "shifts": {"free_for": "sheet slip", "shift": "sheet x y slip many"},
    "evening": {"evening": "land votes had", "evened_by": "land paper", "waiting": "land votes had"},
    "levelled": {"levelled": "land sheets * most"},
    "evenmargin": {"even_cases": "land sheets", "even_least": "land sheets"},
    "lots": {
        "settles": "land bundles lot", "least_lots": "land bundles", "greatest_open": "land bundles",
        "must_look": "land bundles", "fewest": "land bundles",
    },
    "looks": {"order_of": "number many"},
    "stillarea": {
        "greatest_seats": "way sheet unseen group", "least_seats": "way sheet unseen group",
        "bring": "way sheet unseen group seats", "sure_seats": "way sheet unseen",
    },
    "stillland": {
        "outcomes": "land seen unseen", "houses": "land seen unseen", "between": "land seen unseen",
        "sheets_for": "land seen unseen outcome", "is_settled": "land seen unseen",
    },
    "power": {
        "wins": "seats group", "alike_seats": "one other", "least_winning": "seats", "turns": "seats", "shares": "seats",
    },
    "majorities": {
        "sure_majorities": "land seen unseen", "open_areas": "land seen unseen", "can_win": "land seen unseen group",
    },
    "deeds": {
        "is_deed": "thing areas hands", "number_of": "deed", "standing_deeds": "deeds", "clashing_deeds": "deeds",
        "bundles_by": "deeds areas",
    },
    "reaches": {"reached": "poll deed", "idle": "poll"},
    "notation": {
        "show_slip": "slip words", "show_line": "line words", "show_telling": "telling", "show_envelope": "envelope words",
        "show_deed": "deed words", "show_deeds": "deeds words", "show_house": "house words", "show_outcome": "house words",
    },
    "readers": {
        "read_slip": "text words", "read_line": "text words", "read_telling": "text", "read_envelope": "text words",
        "read_deed": "text words areas", "read_deeds": "text words areas",
    },
}
CLASSES = {
    "errors": {
        name: ("PollError", {}) for name in (
            "NoNumber", "NoBallot", "NoSheet", "NoChange", "Torn", "NoBundle", "NoWay", "NoRoll", "NoTelling", "NoEnvelope",
            "NoLand", "NoPoll", "NoDeed", "Ended", "Nothing", "NoText", "NoRow",
        )
    },
    "rolls": {"Roll": ("", {
        "__init__": "self areas tellings", "__eq__": "self other", "__or__": "self other", "tell": "self telling",
        "untell": "self telling", "told": "self", "clashes": "self", "voters": "self area day wait", "everybody": "self",
        "place": "self voter day", "votes_in": "self voter day wait", "is_barred": "self voter day", "copied": "self",
    })},
    "boxes": {"Box": ("", {
        "__init__": "self hands", "many": "self", "take": "self codes seal", "lines_at": "self k", "sheet_at": "self k",
        "sheet": "self", "seal_at": "self k", "put_right": "self k lines",
    })},
    "ways": {
        "Way": ("", {
            "__init__": "self hands seats lots", "ahead": "self one other", "counted": "self sheet",
            "told_by": "self paper", "outcome": "self sheet",
        }),
        "Checker": ("", {
            "__init__": "self way", "right": "self sheet paper", "passes": "self sheet paper outcome",
        }),
    },
    "pairs": {"Pairs": ("Way", {
        "beats": "self sheet x y", "unbeaten": "self sheet", "counted": "self sheet", "told_by": "self paper",
    })},
    "paircheck": {"PairsChecker": ("Checker", {"right": "self sheet paper"})},
    "lists": {"Lists": ("Way", {
        "__init__": "self hands seats lots hurdle step", "least_votes": "self ballots", "mark": "self many had",
        "counted": "self sheet", "told_by": "self paper", "outcome": "self sheet",
    })},
    "listcheck": {"ListsChecker": ("Checker", {"right": "self sheet paper"})},
    "margins": {"Margin": ("", {
        "__init__": "self way", "possible": "self sheet", "shows": "self sheet low paper",
        "held": "self seen unseen known", "least": "self sheet", "high": "self sheet", "told": "self sheet",
        "slip_for": "self x y",
    })},
    "pairmargin": {"PairsMargin": ("Margin", {
        "slip_for": "self x y", "least": "self sheet", "shows": "self sheet low paper", "held": "self seen unseen known",
    })},
    "listmargin": {"ListsMargin": ("Margin", {
        "possible": "self sheet", "least": "self sheet", "high": "self sheet", "told": "self sheet",
        "shows": "self sheet low paper", "held": "self seen unseen known",
    })},
    "lands": {"Land": ("", {
        "__init__": "self areas evened lots hurdle step", "ahead": "self one other", "votes": "self sheets",
        "least_votes": "self ballots", "mark": "self many had",
    })},
    "house": {"House": ("", {
        "__init__": "self land sheets", "by_area": "self", "of_evening": "self", "in_all": "self", "outcome": "self",
        "paper": "self", "led": "self area sheet",
    })},
    "housecheck": {"HouseChecker": ("", {
        "__init__": "self land", "right": "self sheets paper", "passes": "self sheets paper outcome",
    })},
    "landmargin": {"LandMargin": ("", {
        "__init__": "self land", "is_exact": "self", "shows": "self sheets low paper", "held": "self seen unseen known",
        "lows": "self sheets", "least": "self sheets", "high": "self sheets",
    })},
    "looks": {"Look": ("", {
        "__init__": "self land bundles number", "unlooked": "self", "known": "self", "word": "self", "due": "self",
        "found": "self lines",
    })},
    "polls": {"Poll": ("", {
        "__init__": "self land rules", "__eq__": "self other", "put": "self deed", "out": "self deed", "deeds": "self",
        "standing": "self", "envelopes": "self", "struck": "self", "mail": "self", "boxes": "self", "sheets": "self",
        "roll": "self", "verdicts": "self", "house": "self", "unlike": "self other", "copied": "self",
    })},
    "reaches": {"Ledger": ("", {
        "__init__": "self poll", "__len__": "self", "put": "self deed", "out": "self deed", "house": "self", "poll": "self",
        "back": "self", "again": "self", "log": "self",
    })},
    "desk": {"Desk": ("", {"__init__": "self land rules words", "say": "self row", "poll": "self"})},
}
CLASSES["errors"]["PollError"] = ("ValueError", {})
CLASSES["errors"]["WrongNumber"] = ("PollError", {"__init__": "self wanted got"})
CLASSES["errors"]["TooMany"] = ("PollError", {"__init__": "self most"})


def files():
    return sorted(path for path in PACKAGE.iterdir() if path.name != "__pycache__")


def trees():
    return {path.stem: ast.parse(path.read_text()) for path in files()}


def parameters(function):
    names = [one.arg for one in function.args.args]
    if function.args.kwonlyargs:
        names += ["*"] + [one.arg for one in function.args.kwonlyargs]
    return " ".join(names)


def parents(tree):
    """By node the one above it."""
    return {under: node for node in ast.walk(tree) for under in ast.iter_child_nodes(node)}


def defined(body, kind):
    return {one.name: one for one in body if isinstance(one, kind)}


class Files(unittest.TestCase):
    def test_names_and_signs(self):
        for path in files():
            self.assertTrue(path.is_file() and path.suffix == ".py", path)
            text = path.read_text()
            self.assertLess(len(text.splitlines()), 400, path)
            self.assertTrue(all(sign == "\n" or " " <= sign <= "~" for sign in text), path)
            self.assertTrue(all(len(line) <= 120 for line in text.splitlines()), path)

    def test_functions_are_small(self):
        for name, tree in trees().items():
            for node in ast.walk(tree):
                if isinstance(node, ast.FunctionDef):
                    self.assertLessEqual(node.end_lineno - node.lineno + 1, 40, (name, node.name))

    def test_imports(self):
        there = trees()
        graph = {}
        for name, tree in there.items():
            graph[name] = []
            for node in ast.walk(tree):
                self.assertNotIsInstance(node, ast.Import, name)
                if isinstance(node, ast.ImportFrom):
                    self.assertIn(node, tree.body, name)
                    names = {alias.name for alias in node.names}
                    if node.module in LIBRARY:
                        self.assertLessEqual(names, LIBRARY[node.module], name)
                        continue
                    folder, file = node.module.split(".")
                    self.assertEqual((folder, node.level), ("wholepoll", 0), name)
                    graph[name].append(file)
                    bound = set(defined(there[file].body, (ast.FunctionDef, ast.ClassDef)))
                    bound |= {one.targets[0].id for one in there[file].body if isinstance(one, ast.Assign)}
                    self.assertLessEqual(names, bound, (name, file))
        while graph:
            free = [name for name in graph if not set(graph[name]) & set(graph)]
            self.assertTrue(free, f"files import from each other: {sorted(graph)}")
            for name in free:
                del graph[name]


class Rules(unittest.TestCase):
    def test_what_is_not_used(self):
        for name, tree in trees().items():
            for node in ast.walk(tree):
                barred = (
                    ast.Div, ast.AsyncFunctionDef, ast.Await, ast.Global, ast.Nonlocal, ast.With, ast.Yield, ast.YieldFrom,
                    ast.GeneratorExp, ast.Lambda, ast.AugAssign, ast.NamedExpr, ast.AnnAssign, ast.Assert, ast.Match,
                )
                self.assertNotIsInstance(node, barred, (name, getattr(node, "lineno", 0)))
                if isinstance(node, ast.Constant):
                    self.assertNotIsInstance(node.value, (float, complex, bytes), name)
                    self.assertFalse(isinstance(node.value, str) and "%" in node.value, name)

    def test_what_is_iterated_at_once(self):
        """Ranges, zips, enumerates, reverseds and views are gone through where they stand."""
        views = ("items", "keys", "values")
        takers = ("list", "tuple", "dict", "sorted", "sum", "any", "all", "enumerate", "zip", "min", "max")
        for name, tree in trees().items():
            above = parents(tree)
            for node in ast.walk(tree):
                if not isinstance(node, ast.Call):
                    continue
                called = node.func.id if isinstance(node.func, ast.Name) else ""
                view = isinstance(node.func, ast.Attribute) and node.func.attr in views
                if called not in ("range", "zip", "enumerate", "reversed") and not view:
                    continue
                over = above[node]
                if isinstance(over, (ast.For, ast.comprehension)):
                    self.assertIs(over.iter, node, (name, node.lineno))
                elif called == "range" and isinstance(over, ast.Assign):
                    self.assertIsInstance(over.targets[0], ast.Name, (name, node.lineno))
                else:
                    self.assertIsInstance(over, ast.Call, (name, node.lineno))
                    self.assertIn(getattr(over.func, "id", ""), takers, (name, node.lineno))

    def test_sets(self):
        """A set is sorted, measured, compared, or asked for a member on the spot."""
        for name, tree in trees().items():
            above = parents(tree)
            for node in ast.walk(tree):
                made = isinstance(node, ast.Call) and getattr(node.func, "id", "") in ("set", "frozenset")
                if not made and not isinstance(node, (ast.Set, ast.SetComp)):
                    continue
                over = above[node]
                while isinstance(over, ast.BinOp):
                    over = above[over]
                if isinstance(over, ast.Call):
                    self.assertIn(getattr(over.func, "id", ""), ("sorted", "len"), (name, node.lineno))
                    self.assertFalse(over.keywords, (name, node.lineno))
                else:
                    self.assertIsInstance(over, ast.Compare, (name, node.lineno))

    def test_loops_leave_what_they_go_over(self):
        """What a loop goes over by its name is not modified in it."""
        changing = ("append", "extend", "insert", "pop", "remove", "reverse", "clear", "update", "setdefault")
        for name, tree in trees().items():
            for loop in ast.walk(tree):
                if not isinstance(loop, ast.For):
                    continue
                gone = {ast.dump(node) for node in ast.walk(loop.iter) if isinstance(node, (ast.Name, ast.Attribute))}
                for node in ast.walk(ast.Module(loop.body, [])):
                    if isinstance(node, ast.Call) and isinstance(node.func, ast.Attribute) and node.func.attr in changing:
                        self.assertNotIn(ast.dump(node.func.value), gone, (name, node.lineno))
                    if isinstance(node, ast.Subscript) and not isinstance(node.ctx, ast.Load):
                        self.assertNotIn(ast.dump(node.value), gone, (name, node.lineno))

    def test_beside_a_class_that_compares(self):
        for name, tree in trees().items():
            for node in ast.walk(tree):
                if isinstance(node, ast.Attribute):
                    self.assertNotEqual(node.attr, "sort", name)
                if isinstance(node, ast.Call) and isinstance(node.func, ast.Name):
                    if node.func.id in ("any", "all", "min", "max", "sum", "sorted"):
                        for part in node.args:
                            self.assertNotIsInstance(part, ast.GeneratorExp, (name, node.lineno))

    def test_names(self):
        for name, tree in trees().items():
            outer = set(defined(tree.body, ast.ClassDef))
            for node in tree.body:
                if isinstance(node, ast.ImportFrom):
                    outer |= {alias.name for alias in node.names}
            bound = set(defined(tree.body, (ast.FunctionDef, ast.ClassDef)))
            inner = set()
            for node in ast.walk(tree):
                if isinstance(node, ast.Name):
                    self.assertNotIn(node.id, BARRED_WORDS, name)
                    if isinstance(node.ctx, ast.Store):
                        inner.add(node.id)
                elif isinstance(node, ast.arg):
                    inner.add(node.arg)
                elif isinstance(node, ast.Attribute):
                    self.assertNotIn(node.attr, BARRED_WORDS, name)
            self.assertFalse(inner & outer, name)
            self.assertFalse((inner | bound) & set(dir(builtins)), name)
            self.assertFalse((inner | bound) & BARRED_WORDS, name)

    def test_what_is_called(self):
        there = trees()
        own = {node.name for tree in there.values() for node in ast.walk(tree) if isinstance(node, ast.FunctionDef)}
        for name, tree in there.items():
            for node in ast.walk(tree):
                if isinstance(node, ast.Name) and node.id in dir(builtins):
                    self.assertIn(node.id, BUILTINS, (name, node.lineno))
                elif isinstance(node, ast.Call) and isinstance(node.func, ast.Attribute):
                    self.assertIn(node.func.attr, METHODS | own, (name, node.lineno))
                elif isinstance(node, ast.Compare):
                    sides = [node.left] + node.comparators
                    for sign, side in zip(node.ops, sides[1:]):
                        if isinstance(sign, (ast.Is, ast.IsNot)):
                            self.assertIn(getattr(side, "value", side), (None, True, False), (name, node.lineno))

    def test_no_name_is_a_method_and_an_attribute(self):
        methods, attributes = {}, {}
        for name, tree in trees().items():
            for made in defined(tree.body, ast.ClassDef).values():
                for function in defined(made.body, ast.FunctionDef).values():
                    methods.setdefault(function.name, []).append((name, made.name))
            for node in ast.walk(tree):
                if isinstance(node, ast.Attribute) and isinstance(node.ctx, ast.Store):
                    attributes[node.attr] = name
                    self.assertNotIn(node.attr, METHODS, name)
        self.assertFalse(set(methods) & set(attributes))

    def test_module_level(self):
        for name, tree in trees().items():
            for node in tree.body:
                if isinstance(node, ast.Expr):
                    self.assertIsInstance(node.value.value, str, name)
                elif isinstance(node, ast.Assign):
                    ast.literal_eval(node.value)
                else:
                    self.assertIsInstance(node, (ast.FunctionDef, ast.ClassDef, ast.ImportFrom), name)


class Interface(unittest.TestCase):
    def test_functions(self):
        there = trees()
        for file, rows in FUNCTIONS.items():
            functions = defined(there[file].body, ast.FunctionDef)
            for name in rows:
                self.assertIn(name, functions, file)
                self.assertEqual(parameters(functions[name]), rows[name], (file, name))

    def test_classes(self):
        there = trees()
        for file, rows in CLASSES.items():
            classes = defined(there[file].body, ast.ClassDef)
            for name, (base, methods) in rows.items():
                self.assertIn(name, classes, file)
                self.assertEqual(" ".join(one.id for one in classes[name].bases), base, (file, name))
                functions = defined(classes[name].body, ast.FunctionDef)
                for method in methods:
                    self.assertIn(method, functions, (file, name))
                    self.assertEqual(parameters(functions[method]), methods[method], (file, name, method))
