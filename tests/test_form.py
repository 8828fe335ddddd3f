"""The form of the package: the rules of the language subset that can be seen file by file."""

import ast
import builtins
import unittest
from pathlib import Path

PACKAGE = Path(__file__).resolve().parent.parent / "anylatency"
# The files of the interface, in the order in which they are written; those that are there must import only so.
FILES = ("errors", "plain", "blocks", "issue", "spans", "waits", "ends", "never", "moves", "apart", "best", "rounds",
         "loops", "told", "great", "states", "board", "texts", "desk")
LISTED = {
    "blocks": "is_block names_in reads_of readers_of needs_of needed_by slow_in awaited_in is_order least_order"
              " how_many_orders order_at number_of_order with_row without made_slow made_quick with_live renamed",
    "issue": "is_latencies latencies_of issue_ticks come_ticks end_of idle_stretches how_many_idle held_up issued_at"
             " on_way most_on_way slack_of quickest_order",
    "waits": "first_reader wait_of gap_of gaps meets meeting adds_up adding how_many_adding most_adding is_most_adding"
             " at_once most_at_once parted is_parted",
    "ends": "end_from makers maker is_maker which_matter which_hold end_range worth fewest_quick latencies_reaching",
    "never": "never_later alike compare slow_ones gap_changes meet_changes later_by latencies_later is_latencies_later"
             " later_by_within never_later_within worst_set safe_top",
    "moves": "exchanged effect gap_effects free_places better_places climbed moved places_for free_for free_way"
             " fewest_free is_free_way paused hidden_under pause_cost",
    "apart": "greatest_gap order_with_gap is_order_with_gap can_meet can_part meetable always_meeting order_meeting"
             " can_all_meet is_order_meeting how_many_meeting ring_of is_ring great_meetings",
    "best": "key_of classes orders_of how_many_in never_beaten is_never_beaten beaten_by is_beaten_by best is_best regret"
            " least_regret calmest is_calmest safest_gap safest is_safest",
    "loops": "is_loop carried_readers awaited_in_rounds round_gap joint_meeting rounds_end pace first_later"
             " loop_never_later loop_alike loop_slow_ones loop_later_by",
    "told": "is_readings fits_readings orders_that_fit keys_that_fit known_gaps sure_meets next_ends first_misfit"
            " best_ask gap_ask pair_ask told_back",
    "great": "is_long long_gaps long_meeting long_end long_never_later long_later_by long_most",
    "board": "Board",
    "texts": "block_text block_in board_text board_in",
    "desk": "answers",
}
# What the document lists for a Board stands in the class itself.
BOARD = ("__init__ block known names frames __len__ __contains__ __getitem__ __iter__ __eq__ end first above doubled"
         " effect learn forget __setitem__ leave __iadd__ frame lift attempt undo twin").split()
BUILTINS = set("""len range enumerate zip min max sum abs sorted reversed int str bool list tuple dict set isinstance ord
    repr any all divmod pow property Exception ValueError TypeError KeyError IndexError LookupError NotImplemented""".split())
METHODS = set("""append clear copy count endswith extend find get index insert isalnum isalpha isdigit islower isspace
    isupper items join keys ljust lower lstrip partition pop remove replace reverse rfind rjust rpartition rsplit rstrip
    setdefault split splitlines startswith strip update upper values zfill bit_length isascii""".split())
BARRED = set("""type typing enum Enum Flag Generic Protocol ABC namedtuple dataclass overload register mro elements open
    input law version_info eval exec globals locals vars id os sys""".split())
STATEMENTS = (ast.Assign, ast.AugAssign, ast.If, ast.While, ast.For, ast.Return, ast.Break, ast.Continue, ast.Pass,
              ast.Raise, ast.Assert, ast.Delete, ast.Try, ast.Expr, ast.FunctionDef, ast.ClassDef, ast.ImportFrom)


def files():
    return sorted(PACKAGE.glob("*.py"))


def trees():
    for path in files():
        yield path.stem, ast.parse(path.read_text("utf-8"))


def names_bound(tree):
    """All names that the tree binds: functions, classes, parameters, and what is assigned."""
    for node in ast.walk(tree):
        if isinstance(node, (ast.FunctionDef, ast.ClassDef)):
            yield node.name
        elif isinstance(node, ast.arg):
            yield node.arg
        elif isinstance(node, ast.Name) and isinstance(node.ctx, ast.Store):
            yield node.id


class FormTest(unittest.TestCase):
    def test_folder(self):
        found = [path.name for path in PACKAGE.iterdir() if path.name != "__pycache__"]
        self.assertEqual(sorted(found), sorted([f"{name}.py" for name in FILES] + ["__init__.py"]))

    def test_interface_is_defined_in_its_files(self):
        for name, tree in trees():
            made = {node.name for node in tree.body if isinstance(node, (ast.FunctionDef, ast.ClassDef))}
            self.assertLessEqual(set(LISTED.get(name, "").split()), made)

    def test_methods_of_a_board_are_defined_in_it(self):
        made = [node for _, tree in trees() for node in tree.body if isinstance(node, ast.ClassDef)]
        board = [node for node in made if node.name == "Board"]
        self.assertEqual(len(board), 1)
        self.assertLessEqual(set(BOARD), {node.name for node in board[0].body if isinstance(node, ast.FunctionDef)})

    def test_characters_and_lines(self):
        for path in files():
            lines = path.read_text("utf-8").split("\n")
            self.assertLessEqual(len(lines), 400)
            for line in lines:
                self.assertLessEqual(len(line), 120)
                self.assertTrue(all(" " <= sign <= "~" for sign in line), line)

    def test_functions_are_short(self):
        for _, tree in trees():
            for node in ast.walk(tree):
                if isinstance(node, ast.FunctionDef):
                    self.assertLessEqual(node.end_lineno - node.lineno + 1, 40, node.name)
                    self.assertLessEqual({part.id for part in node.decorator_list}, {"property"}, node.name)

    def test_statements(self):
        for name, tree in trees():
            for node in ast.walk(tree):
                self.assertNotIsInstance(node, (ast.GeneratorExp, ast.Yield, ast.Lambda, ast.Div, ast.Global))
                if isinstance(node, ast.stmt):
                    self.assertIsInstance(node, STATEMENTS, f"{name} {node.lineno}")

    def test_imports(self):
        for name, tree in trees():
            for node in ast.walk(tree):
                if isinstance(node, ast.ImportFrom):
                    self.assertEqual(node.level, 0)
                    package, _, module = node.module.partition(".")
                    if package == "math":
                        self.assertEqual([part.name for part in node.names], ["gcd"])
                        continue
                    self.assertEqual(package, "anylatency")
                    self.assertLess(FILES.index(module), FILES.index(name))
                    self.assertNotIn("*", [part.name for part in node.names])

    def test_imports_are_used(self):
        for name, tree in trees():
            used = {node.id for node in ast.walk(tree) if isinstance(node, ast.Name)}
            for node in ast.walk(tree):
                if isinstance(node, ast.ImportFrom):
                    self.assertLessEqual({part.name for part in node.names}, used, name)

    def test_names(self):
        for name, tree in trees():
            imported = {part.name for node in tree.body if isinstance(node, ast.ImportFrom) for part in node.names}
            bound = [word for word in names_bound(tree) if word not in BOARD]
            for word in bound:
                self.assertNotIn(word, imported, name)
                self.assertNotIn(word, dir(builtins), name)
                self.assertNotIn(word, BARRED, name)
                self.assertFalse(word.startswith("__"), name)

    def test_builtins_and_methods(self):
        methods = METHODS | {node.name for _, tree in trees() for made in tree.body if isinstance(made, ast.ClassDef)
                             for node in made.body if isinstance(node, ast.FunctionDef)}
        for name, tree in trees():
            own = set(names_bound(tree))
            for node in ast.walk(tree):
                if isinstance(node, ast.Name) and node.id in dir(builtins) and node.id not in own:
                    self.assertIn(node.id, BUILTINS, f"{name} {node.lineno}")
                if isinstance(node, ast.Call) and isinstance(node.func, ast.Attribute):
                    self.assertIn(node.func.attr, methods, f"{name} {node.lineno}")

    def test_strings_and_numbers(self):
        for name, tree in trees():
            for node in ast.walk(tree):
                if isinstance(node, ast.Constant):
                    self.assertNotIsInstance(node.value, (float, complex), name)
                    if isinstance(node.value, str):
                        self.assertNotIn("%", node.value, f"{name} {node.lineno}")


if __name__ == "__main__":
    unittest.main()
