"""What can be seen of the rules of the language by reading the files of the package."""

import ast
import builtins
import re
import unittest
from pathlib import Path

FOLDER = Path(__file__).resolve().parent.parent / "puttingback"
FILES = sorted(FOLDER.glob("*.py"))
TREES = {path.stem: ast.parse(path.read_text()) for path in FILES}

LIBRARY = {"heapq": {"heappush", "heappop", "heapify", "heapreplace", "heappushpop"},
           "math": {"gcd", "lcm", "isqrt", "comb", "perm", "factorial"}}
BUILTINS = set("""len range enumerate zip min max sum abs sorted reversed int str bool bytes list tuple dict set frozenset
isinstance ord repr any all divmod pow map Exception ValueError TypeError KeyError IndexError LookupError
ZeroDivisionError ArithmeticError OverflowError RuntimeError NotImplementedError AttributeError property""".split())
METHODS = set("""append clear copy count endswith extend find get index insert isalnum isalpha isdigit islower isspace
isupper items join keys ljust lower lstrip partition pop remove replace reverse rfind rjust rpartition rsplit rstrip
setdefault split splitlines startswith strip update upper values zfill bit_length add discard""".split())
BARRED = set("""register mro elements open input law version_info with_traceback add_note attrgetter breakpoint
compile copyright credits delattr dir eval exec exit gc getattr globals hasattr help id importlib license locals
methodcaller os quit setattr super type vars sys typing enum Enum Generic Protocol ABC namedtuple""".split())
STATEMENTS = (ast.Assign, ast.AugAssign, ast.If, ast.While, ast.For, ast.Return, ast.Break, ast.Continue, ast.Pass,
              ast.Raise, ast.Assert, ast.Delete, ast.Expr, ast.FunctionDef, ast.ClassDef, ast.ImportFrom, ast.Try)
INTERFACE = {
    "kinds": "is_kind is_thing count_of things_of number_of thing_at leaves_of",
    "terms": "is_term kind_shown term_at",
    "showing": "shown put_back",
    "tables": "showing_of puts_of",
    "diagrams": "least_diagram is_diagram diagram_shown unlike_thing asked_leaves",
    "putting": "first_refusal unlike_put changed_leaves",
    "sorts": "is_sort is_item count_items item_number item_at kind_sort",
    "itemtexts": "item_text read_item",
    "sortforms": "plain_sort lies_within least_beyond least_common led_item",
    "putrules": "rules_of count_ways way_of bar_of",
    "putgrids": "listing_of clash_of filling_of count_fillings filling_bar",
    "putsides": "count_sides lacking_pair",
    "putbehind": "listing_joined grid_joined rules_behind loss_behind",
    "asides": "is_showing tidy_aside puts_kept serves serving_clash is_serving_clash put_alike parting_put",
    "keptputs": "kept_of puts_fault is_puts_fault",
    "wishes": "wished_aside wish_clash is_wish_clash serving_aside",
    "asidelots": "telling_lots serving_lots told_alike one_by_one lacking_row finest_split",
    "cases": "is_case least_trail",
    "keeping": "keys_hold first_parted least_keys keys_go_on answers_by renewals_by",
    "fieldlots": "holding_lots",
    "letting": "lets_once lets_always",
    "staying": "firm_stays",
    "framelots": "is_frame is_sheet closure_of closed_lots telling_row untold_sheet",
    "frameways": "without_column may_be_shown way_back is_way_back forcing_lots can_leave_out unserved_change",
    "frametests": "taken_rows rows_back columns_asked can_take clashing_rows",
    "framecuts": "parted_sheet joined_parts can_part unjoined_sheet",
    "editmachines": "is_machine come_by failing_row serving_lot is_serving_lot",
    "editalikes": "parting_row alike_lot is_alike_lot",
    "editforgets": "forgets_by kept_rows exchange_row",
    "editbacks": "longest_way lost_letter",
    "editbehinds": "failing_behind put_behind",
    "hubs": "is_hub hub_of done_at heard_by are_woven end_alike",
    "huborders": "orders_agree parting_changes hub_fences",
    "hubtold": "is_never_told class_paper is_class_paper told_row",
    "hublate": "may_look_late late_row",
    "nets": "is_net is_turning is_way way_end way_row",
    "turnings": "naming_of is_naming moving_ring classes_of way_between",
    "onewaynets": "table_from parting_ways",
    "likenets": "new_numbers way_parting",
    "losses": "leaves_told lost_pair row_back least_kept",
    "lives": "is_life life_things life_ends trail_of spared_deeds",
    "roads": "things_come road_to is_closed_lot",
    "claims": "is_claim claim_paper stranded",
    "turning": "first_unturned turned_shares",
    "keepers": "Keeper",
    "errors": "PutError TooMany InvalidItemText",
}


PROPERTIES = [("keepers", "life"), ("keepers", "thing"), ("keepers", "worths")]
METHODS_OF_KEEPER = "put undo redo attempt life thing worths"


def nodes(*kinds):
    """Yield the name of the file and the node, for all nodes of some kinds."""
    for name, tree in TREES.items():
        for node in ast.walk(tree):
            if isinstance(node, kinds):
                yield name, node


def docstrings(tree):
    """Return the constants of a tree that are docstrings."""
    found = []
    for node in ast.walk(tree):
        if isinstance(node, (ast.Module, ast.ClassDef, ast.FunctionDef)) and node.body:
            first = node.body[0]
            if isinstance(first, ast.Expr) and isinstance(first.value, ast.Constant):
                found.append(first.value)
    return found


def bound_names(tree):
    """Return all names that a tree binds: functions, classes, parameters and variables."""
    found = []
    for node in ast.walk(tree):
        if isinstance(node, (ast.FunctionDef, ast.ClassDef)):
            found.append(node.name)
        elif isinstance(node, ast.arg):
            found.append(node.arg)
        elif isinstance(node, ast.Name) and isinstance(node.ctx, ast.Store):
            found.append(node.id)
    return found


class Files(unittest.TestCase):
    def test_names_and_sizes(self):
        self.assertEqual([path.name for path in FOLDER.iterdir() if path.suffix != ".py" and path.name != "__pycache__"], [])
        for path in FILES:
            self.assertRegex(path.name, r"^[a-z0-9_]+\.py$")
            text = path.read_text(encoding="ascii")
            self.assertLessEqual(len(text.split("\n")) - 1, 399, path.name)
            self.assertTrue(all(len(line) <= 120 for line in text.split("\n")), path.name)
            self.assertTrue(all(sign == "\n" or " " <= sign <= "~" for sign in text), path.name)

    def test_functions_are_short(self):
        for name, node in nodes(ast.FunctionDef):
            self.assertLessEqual(node.end_lineno - node.lineno + 1, 40, (name, node.name))

    def test_module_level(self):
        for name, tree in TREES.items():
            for index, node in enumerate(tree.body):
                if isinstance(node, ast.Expr):
                    self.assertEqual(index, 0, name)
                    self.assertIsInstance(node.value, ast.Constant)
                else:
                    self.assertIsInstance(node, (ast.ImportFrom, ast.FunctionDef, ast.ClassDef, ast.Assign), name)
                if isinstance(node, ast.Assign):
                    self.assertTrue(all(isinstance(inner, (ast.Constant, ast.Tuple, ast.List, ast.Dict, ast.Name,
                                                           ast.UnaryOp, ast.USub, ast.Load, ast.Store))
                                        for inner in ast.walk(node) if inner is not node), name)

    def test_names_are_bound_once(self):
        for name, tree in TREES.items():
            top = [node.name for node in tree.body if isinstance(node, (ast.FunctionDef, ast.ClassDef))]
            top += [target.id for node in tree.body if isinstance(node, ast.Assign) for target in node.targets]
            top += [alias.name for node in tree.body if isinstance(node, ast.ImportFrom) for alias in node.names]
            self.assertEqual(len(top), len(set(top)), name)
            imported = {alias.name for node in tree.body if isinstance(node, ast.ImportFrom) for alias in node.names}
            self.assertEqual(imported & set(bound_names(tree)), set(), name)

    def test_interface_is_defined_in_its_files(self):
        for name, words in INTERFACE.items():
            defined = [node.name for node in TREES[name].body if isinstance(node, (ast.FunctionDef, ast.ClassDef))]
            for word in words.split():
                self.assertIn(word, defined)
        [keeper] = [node for node in TREES["keepers"].body if isinstance(node, ast.ClassDef)]
        self.assertEqual((keeper.bases, keeper.decorator_list), ([], []))
        inner = [node.name for node in keeper.body if isinstance(node, ast.FunctionDef)]
        self.assertEqual([word for word in inner if not word.startswith("_")], METHODS_OF_KEEPER.split())


class Imports(unittest.TestCase):
    def test_from_files_that_define_the_names(self):
        for name, node in nodes(ast.ImportFrom):
            self.assertIn(node, TREES[name].body)
            self.assertEqual(node.level, 0)
            words = [alias.name for alias in node.names]
            self.assertTrue(all(alias.asname is None for alias in node.names))
            if node.module in LIBRARY:
                self.assertLessEqual(set(words), LIBRARY[node.module])
                continue
            package, _, module = node.module.partition(".")
            self.assertEqual(package, "puttingback")
            defined = [inner.name for inner in TREES[module].body if isinstance(inner, (ast.FunctionDef, ast.ClassDef))]
            defined += [inner.targets[0].id for inner in TREES[module].body if isinstance(inner, ast.Assign)]
            self.assertLessEqual(set(words), set(defined), (name, module))

    def test_all_imports_are_used(self):
        for name, tree in TREES.items():
            used = {node.id for node in ast.walk(tree) if isinstance(node, ast.Name)}
            for node in tree.body:
                if isinstance(node, ast.ImportFrom):
                    self.assertLessEqual({alias.name for alias in node.names}, used, name)

    def test_no_circles(self):
        ahead = {name: {node.module.partition(".")[2] for node in tree.body if isinstance(node, ast.ImportFrom)}
                 for name, tree in TREES.items()}
        left = dict(ahead)
        while left:
            free = [name for name, needed in left.items() if not needed & set(left)]
            self.assertTrue(free, left)
            for name in free:
                del left[name]

    def test_no_others(self):
        self.assertEqual(list(nodes(ast.Import)), [])


class Code(unittest.TestCase):
    def test_statements(self):
        for name, node in nodes(ast.stmt):
            self.assertIsInstance(node, STATEMENTS, (name, node.lineno))
        for name, node in nodes(ast.FunctionDef):
            if (name, node.name) in PROPERTIES:
                self.assertEqual([decorator.id for decorator in node.decorator_list], ["property"])
            else:
                self.assertEqual(node.decorator_list, [], (name, node.name))
        for name, node in nodes(ast.Try):
            # Whatever a function that is called ends with is no own error: it goes on, and what stood is set again.
            self.assertEqual((name, node.handlers, node.orelse), ("keepers", [], []))
            self.assertTrue(all(isinstance(inner, (ast.If, ast.Assign)) for inner in node.finalbody))

    def test_expressions(self):
        barred = (ast.GeneratorExp, ast.Await, ast.Yield, ast.YieldFrom, ast.NamedExpr, ast.Div, ast.Pow, ast.MatMult)
        self.assertEqual([(name, node) for name, node in nodes(*barred)], [])
        for name, node in nodes(ast.Constant):
            self.assertIsInstance(node.value, (int, str, bool, type(None)), (name, node.lineno))
        for name, node in nodes(ast.Compare):
            for operator, part in zip(node.ops, node.comparators):
                if isinstance(operator, (ast.Is, ast.IsNot)):
                    self.assertIsInstance(part, ast.Constant, (name, node.lineno))

    def test_sets_are_measured_or_sorted_at_once(self):
        held = [node.args[0] for _, node in nodes(ast.Call)
                if isinstance(node.func, ast.Name) and node.func.id in ("sorted", "len")]
        for name, node in nodes(ast.SetComp, ast.Set):
            self.assertIn(node, held, (name, node.lineno))

    def test_ranges_and_the_like_are_iterated_at_once(self):
        lasting = {"range", "zip", "enumerate", "reversed"}
        takers = {"list", "tuple", "dict", "sorted", "sum", "min", "max", "any", "all", "enumerate", "zip", "reversed"}
        at_once = [node.iter for _, node in nodes(ast.For, ast.comprehension)]
        at_once += [argument for _, node in nodes(ast.Call) if isinstance(node.func, ast.Name) and node.func.id in takers
                    for argument in node.args]
        for name, node in nodes(ast.Call):
            word = getattr(node.func, "id", getattr(node.func, "attr", None))
            if word in lasting | {"items", "keys", "values"}:
                self.assertIn(node, at_once, (name, node.lineno))

    def test_what_is_iterated_is_not_changed(self):
        changing = {"append", "extend", "insert", "pop", "remove", "clear", "reverse", "sort", "update", "setdefault"}
        for name, node in nodes(ast.For):
            iterated = {inner.id for inner in ast.walk(node.iter) if isinstance(inner, ast.Name)}
            for inner in ast.walk(node):
                if isinstance(inner, ast.Call) and isinstance(inner.func, ast.Attribute) and inner.func.attr in changing:
                    self.assertNotIn(getattr(inner.func.value, "id", None), iterated, (name, inner.lineno))
                if isinstance(inner, ast.Subscript) and isinstance(inner.ctx, ast.Store):
                    self.assertNotIn(getattr(inner.value, "id", None), iterated, (name, inner.lineno))

    def test_strings(self):
        for name, tree in TREES.items():
            told = docstrings(tree)
            for node in ast.walk(tree):
                if isinstance(node, ast.Constant) and isinstance(node.value, str) and node not in told:
                    self.assertNotIn("%", node.value, name)
                    self.assertEqual(set(re.findall(r"\w+", node.value)) & BARRED, set(), name)

    def test_names(self):
        known = set(dir(builtins))
        for name, tree in TREES.items():
            bound = bound_names(tree)
            for word in bound:
                self.assertNotIn(word, known | BARRED, name)
                self.assertTrue(not word.startswith("__") or word in ("__init__", "__eq__", "__len__"), name)
            for node in ast.walk(tree):
                if isinstance(node, ast.Name) and node.id in known:
                    self.assertIn(node.id, BUILTINS, (name, node.lineno))

    def test_methods(self):
        for name, node in nodes(ast.Call):
            if isinstance(node.func, ast.Attribute):
                self.assertIn(node.func.attr, METHODS, (name, node.lineno))

    def test_errors_are_own_ones(self):
        own = [node.name for node in TREES["errors"].body if isinstance(node, ast.ClassDef)]
        for name, node in nodes(ast.Raise):
            self.assertIsInstance(node.exc, ast.Call, (name, node.lineno))
            self.assertIn(node.exc.func.id, own, (name, node.lineno))
        for name, node in nodes(ast.ExceptHandler):
            self.assertIn(node.type.id, own, (name, node.lineno))


if __name__ == "__main__":
    unittest.main()
