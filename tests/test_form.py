"""The form of the code, and the interface: which names stand in which files, with which parameters."""

import ast
import builtins
import inspect
import os
import tokenize
import unittest
import warnings
from importlib import import_module

FOLDER = os.path.join(os.path.dirname(os.path.dirname(os.path.abspath(__file__))), "deedranks")
MODULES = sorted(name[:-3] for name in os.listdir(FOLDER) if name.endswith(".py"))
BUILTINS = set(dir(builtins))
ALLOWED = set("""len range enumerate zip min max sum abs sorted reversed int str bool bytes list tuple dict set isinstance
    ord repr any all divmod iter next map Exception ValueError TypeError KeyError IndexError LookupError
    ZeroDivisionError ArithmeticError OverflowError RuntimeError NotImplementedError NotImplemented property
    staticmethod classmethod super""".split())
BARRED = set("""register mro elements open input law version_info with_traceback add_note attrgetter breakpoint builtins
    compile copyright credits delattr dir eval exec exit gc getattr globals hasattr help id importlib license locals
    methodcaller os quit setattr type vars sys typing enum Enum namedtuple dataclass abstractmethod""".split())
METHODS = set("""append clear copy count endswith extend find get index insert isalnum isalpha isdigit islower isspace
    isupper items join keys ljust lower lstrip partition pop remove replace reverse rfind rjust rpartition rsplit rstrip
    setdefault split splitlines startswith strip update upper values zfill bit_length removeprefix removesuffix isascii
    """.split())
DUNDERS = set("""__init__ __eq__ __repr__ __str__ __len__ __enter__ __exit__ __call__ __iter__ __add__ __sub__ __mul__
    __rmul__ __contains__ __getitem__ __bool__""".split())
STATEMENTS = (ast.Assign, ast.AugAssign, ast.If, ast.While, ast.For, ast.Return, ast.Break, ast.Continue, ast.Pass,
              ast.Raise, ast.Delete, ast.Expr, ast.FunctionDef, ast.ClassDef, ast.ImportFrom, ast.Try)
CLASSES = {
    "shares": {"Share": ["top", "bottom=1"]},
    "plats": {"Plat": ["rows", "*", "road=()"]},
    "ways": {"Ways": ["plat", "steps"]},
    "titles": {"Titles": ["owners"]},
    "claims": {"Claim": ["name", "owner", "amount", "lot"]},
    "ranks": {"RankList": ["*claims"]},
    "filling": {"Filling": ["ranks", "prices"]},
    "boxes": {"Box": ["bounds"]},
    "sales": {"Sale": ["ranks"], "FairSale": None},
    "entries": {"Entry": ["number", "done", "entered", "deed"]},
    "rolls": {"Roll": ["plat", "owners"]},
    "office": {"Office": ["plat", "owners"]},
    "desk": {"Desk": ["plat", "owners"]},
}
LISTED = {
    "words": "is_name(value) is_lot(value) is_amount(value) is_price(value) is_day(value) is_number(value,least,most)",
    "cells": "is_cell(value) beside(cell) check_cells(cells) hangs_together(cells) pieces(cells) side_count(cells) "
             "corner_counts(cells) holes(cells)",
    "plattexts": "plat_text(plat) read_plat(text)",
    "granting": "possible_steps(plat) fewest_steps(ways) is_answer(ways,value)",
    "rankdeeds": "changed(ranks,deed)",
    "ranktexts": "ranks_text(ranks) read_ranks(text)",
    "demands": "is_demand(value) check_demands(value) check_prices(value) price_row(**prices)",
    "plans": "is_plan(demands,prices,value) plan_sum(plan) plan_totals(demands,plan) taken_from(plan,parcel) "
             "rests(prices,plan)",
    "flows": "greatest_sum(demands,prices,*,parcels=None) greatest_plan(demands,prices,*,parcels=None) "
             "find_moving(demands,prices,plan) is_moving(demands,prices,plan,value) room(demands,prices,plan,names) "
             "moved(demands,prices,plan,names,many)",
    "cuts": "is_cut(demands,value) cut_value(demands,prices,names,*,parcels=None) "
            "smallest_cut(demands,prices,*,parcels=None) largest_cut(demands,prices,*,parcels=None)",
    "totals": "sums(ranks,prices) totals(ranks,prices) pays(ranks,prices) right_plan(ranks,prices) "
              "is_right(ranks,prices,value)",
    "papers": "certificate(ranks,prices) judged(ranks,prices,plan,cuts)",
    "foul": "drawn_most(ranks,prices,name) foul_pay(ranks,prices,name) foul_plan(ranks,prices,name) "
            "is_safe(ranks,prices,name)",
    "leaving": "left(ranks,prices,parcels) left_plan(ranks,prices,parcels,rest)",
    "boxes": "pay_range(ranks,box,name) outlook(ranks,box,name,wanted) brings(ranks,box,name,wanted) "
             "person_range(ranks,box,person)",
    "layers": "layers(ranks,prices,parcel) coin_owner(ranks,prices,parcel,coin) "
              "least_price(ranks,prices,parcel,name,wanted)",
    "alike": "classes(first,second) caps(first,second) row_count(first,second) price_rows(first,second) "
             "parting(first,second) are_alike(first,second)",
    "signs": "signs(ranks,deed)",
    "hurts": "hurt_prices(before,after,person) hurt_persons(before,after) leaves(ranks,deed) "
             "with_leave(ranks,deed,*persons)",
    "orders": "order_totals(ranks,prices,order) order_range(ranks,prices,name)",
    "listing": "statement(ranks,prices)",
    "certificates": "certificate_text(ranks,prices) read_certificate(text) judged_text(text)",
    "deeds": "is_deed(value) is_correction(value)",
    "deedtexts": "deed_text(deed) read_deed(text)",
    "entries": "entry_text(entry) read_entry(text)",
    "journals": "journal_text(office) read_journal(plat,owners,text)",
    "extracts": "roll_text(roll) extract(roll,parcel)",
    "owning": "sole_parcels(roll,person) sole_left(roll,prices,person)",
    "consents": "hurt_by(office,entry)",
    "Share": "less(self,other) read(text) __add__(self,other) __sub__(self,other) __mul__(self,other) "
             "__rmul__(self,other) __eq__(self,other) __str__(self) __repr__(self)",
    "Plat": "rows(self) road(self) names(self) parcel_at(self,cell) cells(self,name) area(self,name) rim(self,name) "
            "outline(self,name) corners(self,name) hole_count(self,name) neighbours(self,name) fronts(self,name) "
            "border(self,first,second) divided(self,name,cells,new) united(self,first,second) mirrored(self) "
            "single(name,height,width) __contains__(self,x) __eq__(self,other) __len__(self) __repr__(self)",
    "Ways": "steps(self) with_steps(self,*steps) comes(self,name) way(self,name) gates(self,name) reached(self,name) "
            "bare(self) __len__(self) __repr__(self)",
    "Titles": "give(self,number,lot,giver,taker,share,*,good=False) inherit(self,number,person,heirs) "
              "burden(self,number,lot,by,*,good=False) void(self,number,target) uphold(self,number,target) "
              "divide(self,parcel,new) unite(self,first,second) parcels(self) persons(self) first_owner(self,parcel) "
              "owners(self,parcel) share_of(self,parcel,person) stretches(self,parcel) chain(self,parcel,at) "
              "stands(self,number,parcel) alike(self,first,second) void_by(self,number) twin(self) __len__(self) "
              "__repr__(self)",
    "Claim": "demand(self) with_owner(self,owner) with_amount(self,amount) with_lot(self,lot) held(cls,name,amount,lot) "
             "reserved(self) __eq__(self,other) __repr__(self)",
    "RankList": "claims(self) names(self) claim(self,name) rank(self,name) persons(self) owned(self,person) "
                "parcels(self) demands(self) elders(self,name) __getitem__(self,at) __iter__(self) "
                "__add__(self,other) __contains__(self,x) __eq__(self,other) __len__(self) __bool__(self) "
                "__repr__(self)",
    "Filling": "come(self,name) came(self) totals(self) plan(self) complete(self) twin(self) __len__(self) "
               "__repr__(self)",
    "Box": "bounds(self) low(self) high(self) holds(self,prices) __eq__(self,other) __len__(self) __repr__(self)",
    "Sale": "sell(self,parcel,price) totals(self) owed(self) sold(self) order(self) plan(self) ended(self) twin(self) "
            "__repr__(self)",
    "FairSale": "sell(self,parcel,price) plan(self) twin(self) __repr__(self)",
    "Entry": "__eq__(self,other) __str__(self) __repr__(self)",
    "Roll": "present_day(self) turn_to(self,day) do(self,number,deed,*,day=None) titles(self) grants(self) on_paper(self) "
            "places(self) came_by(self,name,parcel) last_day(self,name) ranks(self) ways(self) twin(self) __repr__(self)",
    "Office": "turn_to(self,day) put(self,entry) entries(self) entry(self,number) readings(self,*,known=None) "
              "roll(self,*,day=None,known=None) idle(self,*,day=None,known=None) walk(self,*,day=None,known=None) "
              "tried(self,*entries,day=None,known=None) busy(self) twin(self) __contains__(self,x) __len__(self) "
              "__repr__(self)",
    "Desk": "do(self,*actions) undo(self) redo(self) history(self) office(self) asked_prices(self) busy(self) "
            "tried(self,*actions) say(self,line) __call__(self,line) log(self) twin(self) __eq__(self,other) "
            "__len__(self) __repr__(self)",
}
GENERATORS = ["layers.layers", "alike.price_rows", "listing.statement", "office.walk"]


def read(module):
    with open(os.path.join(FOLDER, module + ".py"), encoding="utf-8") as file:
        return file.read()


def trees():
    return {module: ast.parse(read(module)) for module in MODULES}


def functions(tree):
    return [node for node in ast.walk(tree) if isinstance(node, ast.FunctionDef)]


def bound_names(tree):
    """All names that a file binds: by assignments, loops, parameters, functions, classes and imports."""
    for node in ast.walk(tree):
        if isinstance(node, ast.Name) and not isinstance(node.ctx, ast.Load):
            yield node.id
        elif isinstance(node, ast.arg):
            yield node.arg
        elif isinstance(node, ast.ClassDef):
            yield node.name
        elif isinstance(node, ast.ImportFrom):
            yield from [alias.name for alias in node.names]


def parameters(node):
    """The parameters of a function as words."""
    args = node.args
    plain = [arg.arg for arg in args.args]
    for at, default in enumerate(reversed(args.defaults)):
        plain[-1 - at] += "=" + ast.unparse(default)
    if args.vararg:
        plain.append("*" + args.vararg.arg)
    elif args.kwonlyargs:
        plain.append("*")
    for arg, default in zip(args.kwonlyargs, args.kw_defaults):
        plain.append(arg.arg + "=" + ast.unparse(default))
    if args.kwarg:
        plain.append("**" + args.kwarg.arg)
    return plain


def properties(every):
    """The names of all properties of some files."""
    return [node.name for tree in every for node in functions(tree)
            if any(ast.unparse(one) == "property" for one in node.decorator_list)]


def is_literal(node):
    """Whether an expression is a literal that is no list, tuple or dict; a number may have a minus sign."""
    if isinstance(node, ast.UnaryOp) and isinstance(node.op, ast.USub):
        node = node.operand
    return isinstance(node, ast.Constant)


def is_attribute(node, barred):
    """Whether an expression is an attribute off a name, and none of the barred ones."""
    return isinstance(node, ast.Attribute) and isinstance(node.value, ast.Name) and node.attr not in barred


def may_stand_by_a_star(node, barred):
    """Whether an expression is a name, an attribute off a name, a literal, or a list, a tuple or a dict of these."""
    if isinstance(node, (ast.List, ast.Tuple)):
        return all(may_stand_by_a_star(part, barred) for part in node.elts)
    if isinstance(node, ast.Dict):
        return all(may_stand_by_a_star(part, barred) for part in [*node.keys, *node.values])
    return isinstance(node, ast.Name) or is_attribute(node, barred) or is_literal(node)


def is_starred_right(call, barred):
    """Whether behind each star of a call, and beside `**`, there is only what L7 lists."""
    doubles = [word.value for word in call.keywords if word.arg is None]
    if doubles:
        if len(call.keywords) > 1 or not (isinstance(doubles[0], ast.Name) or is_attribute(doubles[0], barred)):
            return False
    starred = [at for at, part in enumerate(call.args) if isinstance(part, ast.Starred)]
    if not starred and not doubles:
        return True
    words = [word.value for word in call.keywords]
    last = call.args[starred[-1]] if starred else None
    if any((word.lineno, word.col_offset) < (last.lineno, last.col_offset) for word in words if last is not None):
        return False
    # Both what has the star and all that comes after it stand behind it.
    behind = call.args if doubles else call.args[starred[0]:]
    parts = [part.value if isinstance(part, ast.Starred) else part for part in behind]
    return all(may_stand_by_a_star(part, barred) for part in [*parts, *words])


def wrong_stars(tree, barred):
    """The rows of the calls with something behind a star, or beside `**`, that may not stand there (L7)."""
    return [node.lineno for node in ast.walk(tree)
            if isinstance(node, ast.Call) and not is_starred_right(node, barred)]


def is_reversed_right(call):
    """Whether `reversed` stands over `list(..)`, `tuple(..)`, `sorted(..)`, `range(..)` or a literal."""
    if len(call.args) != 1:
        return False
    over = call.args[0]
    if isinstance(over, ast.Call):
        return isinstance(over.func, ast.Name) and over.func.id in ("list", "tuple", "sorted", "range")
    return isinstance(over, (ast.List, ast.Tuple, ast.Dict)) or is_literal(over)


def wrong_reversed(tree):
    """The rows of the calls of `reversed` that L5 does not let stand, as RankList has `__getitem__`."""
    return [node.lineno for node in ast.walk(tree) if isinstance(node, ast.Call)
            and isinstance(node.func, ast.Name) and node.func.id == "reversed" and not is_reversed_right(node)]


class Interface(unittest.TestCase):
    def check(self, body, listed):
        found = {node.name: node for node in body if isinstance(node, ast.FunctionDef)}
        for entry in listed.split():
            name, rest = entry[:-1].split("(")
            self.assertIn(name, found)
            self.assertEqual(parameters(found[name]), rest.split(",") if rest else [], name)

    def test_functions_stand_in_their_files(self):
        for module in [name for name in LISTED if name.islower()]:
            self.check(ast.parse(read(module)).body, LISTED[module])

    def test_methods_stand_in_their_classes(self):
        for module, classes in CLASSES.items():
            for name, expected in classes.items():
                tree = ast.parse(read(module))
                [found] = [node for node in tree.body if isinstance(node, ast.ClassDef) and node.name == name]
                self.check(found.body, LISTED[name])
                starts = [parameters(node) for node in found.body if getattr(node, "name", "") == "__init__"]
                # A class without an own start has that of its base class.
                self.assertEqual(starts, [] if expected is None else [["self"] + expected])

    def test_class_values_and_kinds_of_methods(self):
        plats, ranks = import_module("deedranks.plats"), import_module("deedranks.ranks")
        claims, shares = import_module("deedranks.claims"), import_module("deedranks.shares")
        self.assertEqual((plats.Plat.MOST, ranks.RankList.MOST), (12, 24))
        self.assertIsInstance(vars(claims.Claim)["reserved"], property)
        self.assertIsInstance(vars(claims.Claim)["held"], classmethod)
        self.assertIsInstance(vars(shares.Share)["read"], staticmethod)
        self.assertIsInstance(vars(plats.Plat)["single"], staticmethod)
        self.assertEqual(import_module("deedranks.office").Office.MOST, 40)
        for module, kind, name in (("filling", "Filling", "complete"), ("sales", "Sale", "ended"),
                                   ("rolls", "Roll", "present_day"), ("office", "Office", "today"),
                                   ("office", "Office", "busy"), ("desk", "Desk", "busy")):
            found = vars(vars(import_module("deedranks." + module))[kind])[name]
            self.assertIsInstance(found, property)
            self.assertEqual(found.fset is not None, name == "today")

    def test_generators(self):
        found = []
        for module, tree in trees().items():
            for node in functions(tree):
                if any(isinstance(part, (ast.Yield, ast.YieldFrom)) for part in ast.walk(node)):
                    found.append(f"{module}.{node.name}")
        self.assertEqual(sorted(found), sorted(GENERATORS))
        names = [name.split(".")[1] for name in GENERATORS]
        every = [node.name for tree in trees().values() for node in functions(tree)]
        self.assertEqual([name for name in names if every.count(name) != 1], [])
        for name in GENERATORS:
            module, word = name.split(".")
            told = vars(import_module("deedranks." + module))
            found = told[word] if word in told else vars(told[module.capitalize()])[word]
            self.assertTrue(inspect.isgeneratorfunction(found))


class Form(unittest.TestCase):
    def test_files(self):
        for name in os.listdir(FOLDER):
            self.assertTrue(name == "__pycache__" or name.endswith(".py"), name)
            self.assertEqual(name, name.lower())

    def test_sizes_and_characters(self):
        for module in MODULES:
            text = read(module)
            lines = text.split("\n")
            self.assertLess(len(lines), 400, module)
            self.assertLessEqual(max(map(len, lines)), 120, module)
            self.assertEqual([sign for sign in text if sign != "\n" and not " " <= sign <= "~"], [], module)
            for node in functions(ast.parse(text)):
                self.assertLessEqual(node.end_lineno - node.lineno + 1, 40, node.name)

    def test_python_warns_of_no_line(self):
        with warnings.catch_warnings():
            warnings.simplefilter("error")
            for module in MODULES:
                compile(read(module), module + ".py", "exec")

    def test_imports(self):
        for module, tree in trees().items():
            for node in ast.walk(tree):
                self.assertNotIsInstance(node, (ast.Import, ast.AsyncFunctionDef, ast.Global, ast.With))
                if not isinstance(node, ast.ImportFrom):
                    continue
                self.assertIn(node, tree.body)
                self.assertEqual(node.level, 0)
                self.assertTrue(all(alias.asname is None for alias in node.names))
                if node.module == "math":
                    self.assertEqual([alias.name for alias in node.names], ["gcd"])
                    continue
                self.assertTrue(node.module.startswith("deedranks."), module)
                home = ast.parse(read(node.module.split(".")[1]))
                defined = [part.name for part in home.body if isinstance(part, (ast.FunctionDef, ast.ClassDef))]
                for alias in node.names:
                    self.assertIn(alias.name, defined)

    def test_no_import_in_circles_and_none_unused(self):
        needs = {}
        for module, tree in trees().items():
            parts = [node for node in tree.body if isinstance(node, ast.ImportFrom) and node.module != "math"]
            needs[module] = {node.module.split(".")[1] for node in parts}
            used = {node.id for node in ast.walk(tree) if isinstance(node, ast.Name)}
            for part in parts:
                self.assertEqual([alias.name for alias in part.names if alias.name not in used], [], module)
        while needs:
            free = [module for module in needs if not needs[module] & set(needs)]
            self.assertNotEqual(free, [], needs)
            for module in free:
                del needs[module]

    def test_statements_and_expressions(self):
        barred = (ast.GeneratorExp, ast.Lambda, ast.NamedExpr, ast.Set, ast.AnnAssign, ast.Div)
        for module, tree in trees().items():
            for node in ast.walk(tree):
                if isinstance(node, ast.stmt):
                    self.assertIsInstance(node, STATEMENTS, module)
                if isinstance(node, ast.Constant):
                    self.assertNotIsInstance(node.value, (float, complex, bytes), module)
                self.assertNotIsInstance(node, barred, module)
                if isinstance(node, (ast.FunctionDef, ast.arg)):
                    self.assertIsNone(getattr(node, "returns", None))
                    self.assertIsNone(getattr(node, "annotation", None))
                if isinstance(node, ast.BinOp) and isinstance(node.op, ast.Pow):
                    self.assertIn(getattr(node.right, "value", None), range(65), module)
                if isinstance(node, ast.Compare) and any(isinstance(op, (ast.Is, ast.IsNot)) for op in node.ops):
                    self.assertIn(ast.unparse(node.comparators[0]), ("None", "True", "False"))

    def test_only_own_errors_are_caught(self):
        own = set(vars(import_module("deedranks.errors"))) - BUILTINS
        for module, tree in trees().items():
            for node in ast.walk(tree):
                if isinstance(node, ast.ExceptHandler):
                    named = node.type.elts if isinstance(node.type, ast.Tuple) else [node.type]
                    self.assertEqual([part.id for part in named if part.id not in own], [], module)
                for part in getattr(node, "finalbody", []):
                    self.assertIsInstance(part, ast.Assign, module)
                    self.assertIsInstance(part.value, ast.Constant, module)

    def test_decorators(self):
        for tree in trees().values():
            for node in ast.walk(tree):
                for one in getattr(node, "decorator_list", []):
                    self.assertIn(ast.unparse(one), ("property", "staticmethod", "classmethod", "today.setter"))

    def test_names(self):
        for module, tree in trees().items():
            for name in bound_names(tree):
                self.assertNotIn(name, BUILTINS, module)
                self.assertNotIn(name, BARRED, module)
            for node in ast.walk(tree):
                if isinstance(node, ast.Name) and isinstance(node.ctx, ast.Load):
                    self.assertNotEqual(node.id, "_")
                    if node.id in BUILTINS:
                        self.assertIn(node.id, ALLOWED, module)
            for node in functions(tree):
                self.assertNotIn(node.name, BUILTINS | BARRED)
                if node.name.startswith("__"):
                    self.assertIn(node.name, DUNDERS)

    def test_no_name_has_two_meanings_in_a_file(self):
        for module, tree in trees().items():
            outer = [node.name for node in tree.body if isinstance(node, (ast.FunctionDef, ast.ClassDef))]
            outer += [alias.name for node in tree.body if isinstance(node, ast.ImportFrom) for alias in node.names]
            outer += [node.targets[0].id for node in tree.body if isinstance(node, ast.Assign)]
            self.assertEqual(len(outer), len(set(outer)), module)
            for node in functions(tree):
                self.assertEqual(set(bound_names(node)) & set(outer), set(), module)

    def test_methods_of_builtin_values(self):
        own = {node.name for tree in trees().values() for node in functions(tree)}
        for module, tree in trees().items():
            for node in ast.walk(tree):
                if isinstance(node, ast.Call) and isinstance(node.func, ast.Attribute):
                    self.assertIn(node.func.attr, METHODS | own, module)

    def test_what_stands_behind_stars(self):
        every = trees()
        barred = properties(every.values())
        for module, tree in every.items():
            self.assertEqual(wrong_stars(tree, barred), [], module)

    def test_wrong_stars_are_found(self):
        for call in ("f(*xs)", "f(k, *xs)", "f(*xs, n, sep=n)", "f(**d)", "f(*self.rows)", "f(*xs, **self.more)",
                     "f(len(xs), *ys)", "f(*[1, -2, (xs, 'a')], None)", "f(*{1: xs})", "f([x for x in xs], k=len(xs))",
                     "Box(*xs, *ys)", "zip(*rows)", "max(*xs, key=len)", "super().__init__(*xs, **more)"):
            self.assertEqual(wrong_stars(ast.parse(f"a = 1\n{call}\n"), ["many"]), [], call)
        for call in ("RankList(*[claim for _, _, claim in _of_kind(rows, _CLAIM)])", "f(*rows())", "f(*xs[1:])",
                     "f(*sorted(xs))", "f(*box.many)", "f(*self.box.rows)", "f(*(x for x in xs))", "f(*xs or ys)",
                     "f(*xs + ys)", "f(*[[x] for x in xs], 1)", "f(*[xs, [len(xs)]])", "f(*[*xs, 1])", "f(*{1: {**d}})",
                     "f(*xs, len(xs))", "f(*xs, *ys[:1])", "f(*xs, sep=xs[0])", "f(len(xs), **d)", "f(*ys[1:], **d)",
                     "f(**dict(d))", "f(**{'a': 1})", "f(**box.many)", "f(a=1, **d)", "f(**d, **e)", "f(a=1, *xs)",
                     "g(1, f(*xs[1:]))", "f(*f(*xs))", "super().__init__(*xs[1:])", "f(*f'{x}')", "f(*{x, y})"):
            self.assertEqual(wrong_stars(ast.parse(f"a = 1\n{call}\n"), ["many"]), [2], call)
        self.assertEqual(properties(ast.parse(text) for text in (
            "class A:\n    @property\n    def many(self):\n        return 1\n",
            "class B:\n    @staticmethod\n    def told():\n        return 1\n")), ["many"])
        self.assertIn("reserved", properties(trees().values()))

    def test_what_is_reversed(self):
        for module, tree in trees().items():
            self.assertEqual(wrong_reversed(tree), [], module)

    def test_wrong_reversed_are_found(self):
        for text in ("list(xs)", "tuple(self.rows)", "sorted(xs)", "range(3)", "[1, x]", "(1, 2)", "'ab'", "{1: 2}"):
            self.assertEqual(wrong_reversed(ast.parse(f"a = 1\nfor x in reversed({text}):\n    pass\n")), [], text)
        for text in ("entries", "self.rows", "self.rows[1]", "xs[1:]", "rows()", "box.rows()", "[x for x in xs]",
                     "xs + ys", "xs or ys", "xs if a else ys", "self.list(xs)", "d.items()", "zip(xs, ys)", ""):
            self.assertEqual(wrong_reversed(ast.parse(f"a = 1\nfor x in reversed({text}):\n    pass\n")), [2], text)

    def test_sets_are_used_on_the_spot(self):
        for module, tree in trees().items():
            for node in ast.walk(tree):
                for part in ast.iter_child_nodes(node):
                    made = isinstance(part, ast.Call) and isinstance(part.func, ast.Name) and part.func.id == "set"
                    if made or isinstance(part, ast.SetComp):
                        self.assertIsInstance(node, (ast.Call, ast.Compare), module)
                        if isinstance(node, ast.Call):
                            self.assertIn(node.func.id, ("sorted", "len"), module)

    def test_strings(self):
        for module in MODULES:
            with open(os.path.join(FOLDER, module + ".py"), "rb") as file:
                for token in tokenize.tokenize(file.readline):
                    if token.type == tokenize.STRING:
                        self.assertNotIn("%", token.string)
                        rest = token.string
                        for known in ("\\\\", "\\n", "\\t", "\\'", '\\"'):
                            rest = rest.replace(known, "")
                        self.assertNotIn("\\", rest)

    def test_special_methods_change_nothing(self):
        for module, tree in trees().items():
            for node in functions(tree):
                if node.name in ("__eq__", "__repr__", "__str__", "__len__", "__bool__", "__contains__", "__iter__"):
                    for part in ast.walk(node):
                        self.assertNotIsInstance(part, (ast.Assign, ast.AugAssign, ast.For, ast.While), module)
                    self.assertIsInstance(node.body[-1], ast.Return)

    def test_no_class_has_one_name_for_a_method_and_an_attribute(self):
        for tree in trees().values():
            for node in ast.walk(tree):
                if isinstance(node, ast.ClassDef):
                    methods = {part.name for part in node.body if isinstance(part, ast.FunctionDef)}
                    stored = {part.attr for part in ast.walk(node)
                              if isinstance(part, ast.Attribute) and isinstance(part.ctx, ast.Store)}
                    self.assertEqual(methods & stored, set())

    def test_every_module_can_be_imported(self):
        for module in MODULES:
            name = "deedranks" if module == "__init__" else "deedranks." + module
            self.assertTrue(inspect.getdoc(import_module(name)), name)


if __name__ == "__main__":
    unittest.main()
