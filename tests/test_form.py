"""The form of the package: its interface, and the rules of its language that can be read off the code."""

import ast
import builtins
import importlib
import inspect
import pathlib
import unittest

FOLDER = pathlib.Path(__file__).parent.parent / "handsunread"

# In the order of the document, in which a file draws from those ahead of it alone; basics is what all rest on.
INTERFACE = {
    "basics": {},
    "errors": {
        "NoHand": "hand", "NoWire": "wire", "NoNumber": "number", "NoWord": "word", "NothingDone": "", "Unfit": "",
        "NoPaper": "", "BadText": "", "BadLine": "number",
    },
    "tables": {
        "is_table": "thing, many, long", "same_table": "many", "sum_table": "one, other", "times_much": "table, much",
        "turned": "table", "shown": "row, other", "applied": "table, row", "read_by": "row, table",
        "product": "one, other", "power": "table, many", "rank": "table", "leading": "table", "det": "table",
        "minor": "table, rows, columns", "inverse": "table", "solved": "table, row", "is_solved": "table, row, thing",
        "against": "table, row", "is_against": "table, row, thing",
    },
    "spaces": {
        "is_space": "thing, long", "span": "rows", "whole_space": "long", "within": "space, other",
        "sum_space": "space, other", "meet": "space, other", "shares": "space, row", "off_space": "space, row",
        "is_off_space": "space, row, thing", "zeros_of": "rows, long", "led": "table, space",
        "led_into": "table, space", "is_kept": "table, space", "kept_with": "table, rows", "kept_in": "table, space",
        "rest_of": "outer, inner", "over": "table, outer, inner",
    },
    "polys": {
        "is_poly": "thing", "is_tone": "thing", "poly_sum": "polys", "poly_product": "polys",
        "value_at": "poly, number", "monic": "poly", "divided": "one, other", "divides": "one, other",
        "how_often": "tone, poly", "greatest_common": "polys", "least_common": "polys", "common_paper": "one, other",
        "is_common_paper": "one, other, thing", "each_once": "poly", "without_factors": "one, other",
        "table_poly": "table", "at_table": "poly, table", "least_poly": "table",
        "shown_row": "table, start, reading, many", "shown_poly": "table, start, reading", "goes_by": "row, poly",
    },
    "ptables": {
        "is_ptable": "thing", "ptimes": "one, other", "pdet": "ptable", "pminor": "ptable, rows, columns",
        "divisor_of_order": "ptable, order", "prank": "ptable", "brought": "ptable", "is_brought": "ptable, thing",
        "ptable_at": "ptable, number",
    },
    "plants": {
        "is_plant": "thing", "sizes": "plant", "wires": "plant", "wire_row": "plant, wire",
        "is_rules": "plant, thing", "idle": "plant", "all_rules": "plant", "whole": "plant, rules",
        "renamed": "plant, places", "based": "plant, base", "turned_about": "plant", "only_hands": "plant, lot",
        "joined_hands": "plant, lot",
    },
    "plays": {
        "is_moves": "plant, thing", "is_clock": "plant, thing", "is_steady": "plant, thing",
        "is_play": "plant, thing", "seen": "plant, cells", "ticked": "plant, cells, moves",
        "played": "plant, cells, clock, ticks", "idled": "plant, cells, ticks",
        "steadied": "plant, cells, steady, ticks", "shown_along": "reading, play", "apart": "one, other",
        "go_together": "plant, hand, one, other", "all_together": "plant, one, other",
    },
    "ways": {
        "start_delays": "plant, start, hand", "hand_delays": "plant, hand, other",
        "reading_delays": "plant, hand, reading", "links": "plant", "first_reached": "plant, start",
        "reached": "plant, start", "reaching": "plant, reading", "is_way": "plant, start, reading, thing",
        "way": "plant, start, reading", "all_ways": "plant, start, reading", "ticks": "plant, start, reading, hands",
        "soonest": "plant, start, reading", "stops": "plant, start, reading",
    },
    "sure": {
        "is_sure": "plant, start, reading", "sure_paper": "plant, start, reading",
        "is_sure_paper": "plant, start, reading, thing", "unsure_paper": "plant, start, reading",
        "is_unsure_paper": "plant, start, reading, thing", "strayed": "plant, start, reading, clock, ticks",
        "sure_readings": "plant, start", "sure_starts": "plant, reading", "untouched": "plant", "unseen": "plant",
        "course": "plant, start, reading, ticks",
    },
    "learn": {
        "hears": "plant, hand", "heard_by": "plant, hand", "own_sums": "plant, hand", "open_sums": "plant, hand",
        "silent": "plant, hand", "knowing": "plant, hand, reading", "is_knowing": "plant, hand, reading, thing",
        "hiding": "plant, hand, reading", "is_hiding": "plant, hand, reading, thing", "cut": "plant, wires",
        "is_trail": "plant, start, reading, thing", "most_trails": "plant, start, reading",
        "is_most_trails": "plant, start, reading, thing", "is_cut": "plant, start, reading, thing",
        "fewest_cut": "plant, start, reading", "fewest_deaf": "plant, hand, other",
    },
    "sight": {
        "moved_by": "plant, lot", "unseen_beside": "plant, lot", "is_closed": "plant, lot", "closed_lots": "plant",
        "lot_from": "plant, lot", "sight_spaces": "plant, lot", "sight_table": "plant, lot",
        "sight_poly": "plant, lot", "sight": "plant", "in_sight": "plant, tone", "lots_showing": "plant, tone",
        "part_in_sight": "plant, lot, start", "next_in_sight": "plant, lot, row",
    },
    "sheets": {
        "is_sheet": "thing", "filled": "sheet, numbers", "count_of": "sheet, rows, columns", "greatest_rank": "sheet",
        "tight_windows": "sheet", "rank_paper": "sheet, number", "is_rank_paper": "sheet, number, thing",
        "needed": "sheet", "low_filling": "sheet",
    },
    "partings": {
        "parting": "plant, lot", "parting_divisor": "plant, lot", "parted_multiple": "plant",
        "is_short": "plant, lot, tone", "short_lots": "plant, tone", "rank_at": "plant, lot, number",
        "lowest_lots": "plant, number", "rank_rules": "plant, number", "is_rank_rules": "plant, number, thing",
    },
    "staying": {
        "stay": "plant", "stays": "plant, tone", "stays_often": "plant, tone", "held_part": "plant, tone",
        "shared_by": "plant, some", "free_rules": "plant, tone", "stay_paper": "plant, tone",
        "is_stay_paper": "plant, tone, thing", "few_rules": "plant", "is_few_rules": "plant, thing",
    },
    "memory": {
        "is_program": "plant, hand, thing", "steady_whole": "plant, steady", "steady_poly": "plant, steady",
        "beyond_stay": "plant, steady", "greater_plant": "plant, memory", "as_rules": "plant, steady",
        "as_steady": "plant, memory, rules", "rules_at": "plant, steady, much",
        "answers": "plant, hand, program, many", "alike": "plant, hand, one, other",
        "fewest_memories": "plant, hand, program", "leanest": "plant, hand, program",
        "is_leanest": "plant, hand, program, thing",
    },
    "wires": {
        "without_wire": "plant, wire", "is_offer": "plant, thing", "with_offers": "plant, offers",
        "with_talks": "plant, talks", "needless": "plant, tone", "bar": "plant, offers, talks, tone",
        "is_bar": "plant, offers, talks, tone, thing", "fewest_offers": "plant, offers, tone",
        "cheapest_offers": "plant, offers, prices, tone", "fewest_talks": "plant, tone",
    },
    "rest": {
        "schur_row": "poly", "dies_out": "poly", "table_dies": "table", "calm_after": "table, many",
        "is_calm": "table, many", "rests": "plant, rules", "steady_rests": "plant, steady", "first_rules": "plant",
        "never_rests": "plant", "surely_restless": "plant", "held_alone": "plant", "is_held_alone": "plant, tone",
        "powered": "tone, many", "round_of": "plant, clock", "clock_moves": "plant, clock, tone",
        "first_clock": "plant, tone",
    },
    "beside": {
        "beside": "plant, other", "in_row": "plant, other, link", "round_about": "plant, other, link, back",
        "late_gauge": "plant, hand, number", "late_lever": "plant, hand, number", "part_of": "plant, cells, hands",
        "pieces_in_row": "plant", "is_in_row": "plant, thing", "stay_by_pieces": "plant",
    },
    "judge": {
        "is_claim": "thing", "is_so": "claim", "paper": "claim", "is_paper": "claim, thing", "shows": "claim, thing",
        "about": "claim, plant", "not_so": "claims", "turned_by": "claims, plant",
    },
    "texts": {
        "fraction_text": "fraction", "row_text": "row", "sheet_text": "sheet", "poly_text": "poly",
        "rules_text": "rules", "clock_text": "clock", "plant_text": "plant", "fraction_in": "text", "row_in": "text",
        "sheet_in": "text", "poly_in": "text", "rules_in": "text", "clock_in": "text", "plant_in": "text",
    },
    "board": {"Board": "plant"},
    "desk": {"is_request": "line", "replies": "plant, text", "last_plant": "plant, text"},
}
BOARD = {
    "plant": "", "first": "", "deeds": "", "__len__": "", "behind": "m", "cell": "i, j, x", "lever": "hand, row",
    "gauge": "hand, row", "cut": "wire", "hand": "", "drop": "hand", "join": "lot", "do": "deed", "undo": "",
    "redo": "", "is_sure": "start, reading", "way": "start, reading", "turns": "start, reading", "free_turns": "tone",
    "blamed": "start, reading", "is_plan": "deeds",
}
LIBRARY = {
    "math": ("gcd", "lcm", "isqrt", "comb", "perm", "factorial"),
    "itertools": ("product", "combinations", "permutations"),
    "heapq": ("heappush", "heappop", "heapify", "heapreplace", "heappushpop"),
}
BUILTINS = (
    "len", "range", "enumerate", "zip", "min", "max", "sum", "abs", "sorted", "reversed", "int", "str", "bool", "list",
    "tuple", "dict", "set", "isinstance", "ord", "repr", "any", "all", "divmod", "ValueError", "LookupError",
    "KeyError", "ZeroDivisionError",
)
METHODS = (
    "append", "copy", "count", "endswith", "extend", "find", "get", "index", "insert", "isalnum", "isalpha", "isdigit",
    "items", "join", "keys", "lower", "partition", "pop", "remove", "replace", "reverse", "setdefault", "split", "startswith",
    "strip", "update", "upper", "values", "bit_length", "zfill",
)
BARRED_NODES = (
    ast.AsyncFunctionDef, ast.Global, ast.Nonlocal, ast.Lambda, ast.GeneratorExp, ast.Set, ast.SetComp, ast.Await,
    ast.Yield, ast.YieldFrom, ast.With, ast.Import, ast.AnnAssign, ast.NamedExpr, ast.Match, ast.JoinedStr,
    ast.Div, ast.MatMult, ast.Assert, ast.Delete,
)
DEFINED = (ast.FunctionDef, ast.ClassDef)
BARRED_NAMES = (
    "register", "mro", "elements", "open", "input", "law", "version_info", "with_traceback", "add_note", "attrgetter",
    "breakpoint", "builtins", "compile", "copyright", "credits", "delattr", "dir", "eval", "exec", "exit", "gc",
    "getattr", "globals", "hasattr", "help", "id", "importlib", "license", "locals", "methodcaller", "os", "quit",
    "setattr", "super", "type", "vars", "sys",
)
BARRED_HEADS = (
    "_wall", "_pe_", "_dcw_", "_enum_", "_cm_", "_twin_re_", "_lay_", "_law_", "_stub_", "_sre", "_WallAttr", "__",
)
BARRED_UNDERSCORES = ("_cold", "_tuplegetter", "_outside", "_record", "_written_out", "_member_names")
BARRED_WORDS = (
    "type", "typing", "typing_extensions", "enum", "Enum", "IntEnum", "StrEnum", "Flag", "IntFlag", "Generic",
    "Protocol", "ABC", "ABCMeta", "namedtuple", "NamedTuple", "TypedDict", "TYPE_CHECKING", "abstractmethod",
)


def files():
    return sorted(FOLDER.glob("*.py"))


def tree_of(path):
    return ast.parse(path.read_text(encoding="ascii"))


def functions_of(tree):
    return [node for node in ast.walk(tree) if isinstance(node, ast.FunctionDef)]


def imports_of(tree):
    return [node for node in ast.walk(tree) if isinstance(node, ast.ImportFrom)]


def stored_names(tree):
    """All names that are assigned, looped over, or parameters."""
    found = [node.id for node in ast.walk(tree) if isinstance(node, ast.Name) and isinstance(node.ctx, ast.Store)]
    return found + [node.arg for node in ast.walk(tree) if isinstance(node, ast.arg)]


class Interface(unittest.TestCase):
    def test_names_and_arguments(self):
        for file, names in INTERFACE.items():
            module = importlib.import_module("handsunread." + file)
            for name, arguments in names.items():
                held = getattr(module, name)
                self.assertEqual(held.__module__, "handsunread." + file)
                if arguments or not inspect.isclass(held):
                    self.assertEqual(", ".join(inspect.signature(held).parameters), arguments, name)

    def test_board(self):
        # Each method stands in the class itself, and it has no others.
        board = importlib.import_module("handsunread.board").Board
        own = {name: held for name, held in vars(board).items() if inspect.isfunction(held)}
        self.assertEqual(set(own), set(BOARD) | {"__init__"})
        for name, arguments in BOARD.items():
            self.assertEqual(", ".join(list(inspect.signature(own[name]).parameters)[1:]), arguments, name)

    def test_files(self):
        names = {path.stem for path in files()}
        self.assertEqual(names, set(INTERFACE) | {"__init__"})
        others = [path.name for path in FOLDER.iterdir() if path.suffix != ".py" and path.name != "__pycache__"]
        self.assertEqual(others, [])

    def test_a_file_draws_from_those_ahead(self):
        order = list(INTERFACE)
        for path in files():
            if path.stem in order:
                for node in imports_of(tree_of(path)):
                    if node.module in LIBRARY:
                        self.assertTrue(all(name.name in LIBRARY[node.module] for name in node.names))
                        continue
                    package, file = node.module.split(".")
                    self.assertEqual((package, node.level), ("handsunread", 0))
                    self.assertLess(order.index(file), order.index(path.stem))
                    own = [one.name for one in tree_of(FOLDER / (file + ".py")).body if hasattr(one, "name")]
                    own += stored_names(ast.Module(body=[
                        one for one in tree_of(FOLDER / (file + ".py")).body if isinstance(one, ast.Assign)
                    ], type_ignores=[]))
                    for name in node.names:
                        self.assertIn(name.name, own)
                        self.assertIsNone(name.asname)


class Form(unittest.TestCase):
    def test_sizes_and_signs(self):
        for path in files():
            text = path.read_text(encoding="ascii")
            lines = text.split("\n")
            self.assertLessEqual(len(lines) - 1, 399, path.name)
            for line in lines:
                self.assertLessEqual(len(line), 120, (path.name, line))
                self.assertTrue(all(" " <= sign <= "~" for sign in line), (path.name, line))
            for node in functions_of(tree_of(path)):
                self.assertLessEqual(node.end_lineno - node.lineno + 1, 40, (path.name, node.name))
                self.assertEqual(node.decorator_list, [])

    def test_module_level(self):
        for path in files():
            for node in tree_of(path).body:
                if isinstance(node, ast.Expr):
                    self.assertIsInstance(node.value, ast.Constant)
                else:
                    self.assertIsInstance(node, (ast.ImportFrom, ast.FunctionDef, ast.ClassDef, ast.Assign), path.name)

    def test_nodes(self):
        for path in files():
            for node in ast.walk(tree_of(path)):
                self.assertNotIsInstance(node, BARRED_NODES, (path.name, getattr(node, "lineno", None)))
                if isinstance(node, ast.Constant):
                    self.assertNotIsInstance(node.value, (float, complex), path.name)
                if isinstance(node, ast.Compare):
                    for sign, other in zip(node.ops, node.comparators):
                        if isinstance(sign, (ast.Is, ast.IsNot)):
                            self.assertIsInstance(other, ast.Constant)

    def test_what_is_caught(self):
        for path in files():
            for node in ast.walk(tree_of(path)):
                if isinstance(node, ast.Try):
                    self.assertEqual((node.orelse, node.finalbody), ([], []), path.name)
                    for handler in node.handlers:
                        self.assertIsNone(handler.name)
                        named = handler.type.elts if isinstance(handler.type, ast.Tuple) else [handler.type]
                        for word in named:
                            self.assertIn(word.id, INTERFACE["errors"], path.name)

    def test_stars(self):
        for path in files():
            for node in ast.walk(tree_of(path)):
                if isinstance(node, ast.Call) and any(isinstance(part, ast.Starred) for part in node.args):
                    self.assertEqual((node.func.id, len(node.args)), ("zip", 1), path.name)
                    self.assertIsInstance(node.args[0].value, ast.Name)

    def test_names(self):
        for path in files():
            tree = tree_of(path)
            imported = [name.name for node in imports_of(tree) for name in node.names]
            self.assertEqual(len(imported), len(set(imported)), path.name)
            stored = stored_names(tree)
            defined = [node.name for node in ast.walk(tree) if isinstance(node, (ast.FunctionDef, ast.ClassDef))]
            methods = [
                node for owner in ast.walk(tree) if isinstance(owner, ast.ClassDef) for node in owner.body
                if isinstance(node, ast.FunctionDef)
            ]
            for name in stored + [node.name for node in ast.walk(tree) if isinstance(node, DEFINED) and node not in methods]:
                self.assertNotIn(name, imported, path.name)
            for name in stored + [name for name in defined if name not in ("__init__", "__len__")]:
                self.assertFalse(hasattr(builtins, name), (path.name, name))
                self.assertNotIn(name, BARRED_NAMES)
                self.assertTrue(name == "_" or not name.startswith("_"), name)
            for name in stored:
                self.assertFalse(name in defined and name[0].isupper())
            read = [node.id for node in ast.walk(tree) if isinstance(node, ast.Name) and isinstance(node.ctx, ast.Load)]
            self.assertNotIn("_", read)
            for name in imported:
                self.assertIn(name, read, (path.name, "is imported and not used"))
            for name in read:
                if hasattr(builtins, name):
                    self.assertIn(name, BUILTINS, path.name)

    def test_methods(self):
        for path in files():
            for node in ast.walk(tree_of(path)):
                if isinstance(node, ast.Call) and isinstance(node.func, ast.Attribute):
                    self.assertIn(node.func.attr, METHODS + tuple(BOARD), path.name)

    def test_underscores(self):
        for path in files():
            tree = tree_of(path)
            names = stored_names(tree) + [node.attr for node in ast.walk(tree) if isinstance(node, ast.Attribute)]
            names += [node.name for node in ast.walk(tree) if isinstance(node, DEFINED)]
            for name in names:
                if name.startswith("_") and name not in ("_", "__init__", "__len__"):
                    self.assertRegex(name, "^_[a-z]", path.name)
                    self.assertFalse(name.startswith(BARRED_HEADS), (path.name, name))
                    self.assertNotIn(name.rstrip("_0123456789"), BARRED_UNDERSCORES, path.name)

    def test_words(self):
        for path in files():
            for node in ast.walk(tree_of(path)):
                if isinstance(node, ast.Name):
                    self.assertNotIn(node.id, BARRED_WORDS)
                if isinstance(node, ast.Attribute):
                    self.assertNotIn(node.attr, BARRED_WORDS)

    def test_what_is_iterated_is_iterated_at_once(self):
        heads = ("list", "tuple", "sorted", "sum", "any", "all", "enumerate", "zip", "min", "max", "dict")
        for path in files():
            tree = tree_of(path)
            at_once = []
            for node in ast.walk(tree):
                if isinstance(node, (ast.For, ast.comprehension)):
                    at_once.append(node.iter)
                if isinstance(node, ast.Call) and isinstance(node.func, ast.Name) and node.func.id in heads:
                    at_once.extend(node.args)
                # A range may be kept, and combinations go over one.
                if isinstance(node, ast.Call) and isinstance(node.func, ast.Name) and node.func.id == "combinations":
                    at_once.extend(node.args)
                if isinstance(node, ast.Assign) and isinstance(node.value, ast.Call):
                    if isinstance(node.value.func, ast.Name) and node.value.func.id == "range":
                        at_once.append(node.value)
            for node in ast.walk(tree):
                if isinstance(node, ast.Call) and isinstance(node.func, ast.Name):
                    if node.func.id in ("zip", "enumerate", "reversed", "range", "combinations"):
                        self.assertIn(node, at_once, (path.name, node.lineno))

    def test_sets_are_not_kept(self):
        for path in files():
            tree = tree_of(path)
            at_once = [
                part for node in ast.walk(tree)
                if isinstance(node, ast.Call) and isinstance(node.func, ast.Name) and node.func.id in ("sorted", "len")
                for part in node.args
            ]
            for node in ast.walk(tree):
                if isinstance(node, ast.Name) and node.id == "set":
                    self.assertIn(node, [part.func for part in at_once if isinstance(part, ast.Call)], path.name)

    def test_inner_comprehensions_have_names_of_their_own(self):
        for path in files():
            for function in functions_of(tree_of(path)):
                for outer in ast.walk(function):
                    if isinstance(outer, (ast.ListComp, ast.DictComp)):
                        for inner in ast.walk(outer):
                            if isinstance(inner, (ast.ListComp, ast.DictComp)) and inner is not outer:
                                self.own_names(path, function, outer, inner)

    def own_names(self, path, function, outer, inner):
        mine = {name for part in inner.generators for name in stored_names(part.target)}
        others = {name for part in outer.generators for name in stored_names(part.target)}
        # Names of comprehensions beside it do not reach it.
        apart = {
            id(node) for node in ast.walk(function) if isinstance(node, (ast.ListComp, ast.DictComp))
            for part in node.generators for node in ast.walk(part.target)
        }
        assigned = {
            node.id for node in ast.walk(function)
            if isinstance(node, ast.Name) and isinstance(node.ctx, ast.Store) and id(node) not in apart
        } | {argument.arg for argument in function.args.args}
        self.assertFalse(mine & (others | assigned), (path.name, inner.lineno))


if __name__ == "__main__":
    unittest.main()
