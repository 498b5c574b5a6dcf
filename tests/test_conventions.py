"""Point [1], for all modules at once, and the interface as it is listed."""

import ast
import importlib
import inspect
from pathlib import Path

from registerrooms.alike import Parted, Same, judge_both
from registerrooms.folding import Folded, Tangled, fold
from registerrooms.programs import Program
from registerrooms.roads import Avoids, Heads, Live, judge_heads, lives
from registerrooms.runs import Stops, Turns, judge_runs
from registerrooms.single import Single
from tests.samples import FORK, LOOP, NEVER, RING, SINGLE, STOP, RoomTest, straight

LIBRARY = ("heapq", "math", "itertools", "collections")
PACKAGE = Path(__file__).resolve().parent.parent / "registerrooms"

CLASSES = {
    "programs": {"Program": "__init__ __len__ __getitem__ __eq__ rows end followers edges_into points"},
    "single": {"Single": "__init__ __len__ __getitem__ __eq__ rows end followers edges_into points joins definition"},
    "runs": {"Stops": "__init__ __eq__ shows", "Turns": "__init__ __eq__ shows"},
    "alike": {"Same": "__init__ __eq__ __iter__ shows", "Parted": "__init__ __eq__ shows"},
    "roads": {"Heads": "__init__ __eq__ shows", "Avoids": "__init__ __eq__ shows", "Live": "__init__ __eq__ shows"},
    "folding": {"Folded": "__init__ __eq__ shows", "Tangled": "__init__ __eq__ shows"},
}
FUNCTIONS = {
    "runs": {
        "run": "(program, handed, inputs, *, most=100)", "telling": "(program, handed, inputs)",
        "step": "(program, state, taken=None)", "judge_runs": "(program)", "does_stop": "(program)",
        "most_steps": "(program)"},
    "alike": {"judge_both": "(one, other)", "tell_alike": "(one, other)"},
    "roads": {
        "heads": "(program, block)", "head_of": "(program, block)", "judge_heads": "(program, one, other)",
        "live_sets": "(program)", "lives": "(program)", "is_live": "(program, point, variable)"},
    "folding": {"fold": "(program)", "is_foldable": "(program)", "what_is_left": "(program)"},
}
SIGNATURES = {
    Program: "(many, blocks, *, handed=0, span=4)", Single: "(many, handed, blocks, *, span=4)", Stops: "(heights)",
    Turns: "(handed, ahead, ring)", Same: "(pairs)", Parted: "(handed, inputs)", Heads: "(closed)", Avoids: "(road)",
    Live: "(sets, roads)", Folded: "(order)", Tangled: "(ring, roads)",
}


class InterfaceTest(RoomTest):
    def test_classes(self):
        for name, classes in CLASSES.items():
            module = importlib.import_module(f"registerrooms.{name}")
            for title, methods in classes.items():
                found = vars(module)[title]
                self.assertEqual(found.__module__, module.__name__)
                for method in methods.split():
                    self.assertIn(method, vars(found), title)

    def test_functions(self):
        for name, functions in FUNCTIONS.items():
            module = importlib.import_module(f"registerrooms.{name}")
            for title, signature in functions.items():
                found = vars(module)[title]
                self.assertEqual(found.__module__, module.__name__)
                self.assertEqual(str(inspect.signature(found)), signature, title)

    def test_signatures(self):
        for made, signature in SIGNATURES.items():
            self.assertEqual(str(inspect.signature(made)), signature, made)


class FilesTest(RoomTest):
    def test_files_and_sizes(self):
        for path in PACKAGE.rglob("*"):
            if "__pycache__" in path.parts:
                continue
            self.assertEqual(path.suffix, ".py")
            text = path.read_text()
            self.assertTrue(all(" " <= char <= "~" or char == "\n" for char in text), path)
            lines = text.split("\n")
            self.assertLess(len(lines), 400, path)
            self.assertLessEqual(max(len(line) for line in lines), 120, path)
            for node in ast.walk(ast.parse(text)):
                if isinstance(node, ast.FunctionDef):
                    self.assertLessEqual(node.end_lineno - node.lineno, 39, (path, node.name))

    def test_imports(self):
        for path in PACKAGE.glob("*.py"):
            for node in ast.walk(ast.parse(path.read_text())):
                self.assertNotIsInstance(node, ast.Import)
                if isinstance(node, ast.ImportFrom) and node.module not in LIBRARY:
                    package, _, name = node.module.partition(".")
                    self.assertEqual((package, node.level), ("registerrooms", 0), path)
                    source = ast.parse((PACKAGE / f"{name}.py").read_text())
                    own = {one.name for one in source.body if hasattr(one, "name")}
                    own |= {one.targets[0].id for one in source.body if isinstance(one, ast.Assign)}
                    self.assertLessEqual({alias.name for alias in node.names}, own, path)


class EqualityTest(RoomTest):
    def test_different_classes(self):
        self.all_different(
            Program(1, (((), STOP),)), Single(1, (0,), (((), (), STOP),)), Stops({}), Turns((), [], []), Same([]),
            Parted((), []), Heads([]), Avoids(()), Live({}, {}), Folded([]), Tangled((), {}))

    def test_what_is_returned_twice(self):
        for ask, arguments in (
                (judge_runs, (LOOP,)), (judge_runs, (NEVER,)), (judge_both, (LOOP, LOOP)), (judge_both, (LOOP, NEVER)),
                (judge_heads, (LOOP, 1, 2)), (judge_heads, (FORK, 1, 3)), (lives, (SINGLE,)), (fold, (LOOP,)),
                (fold, (RING,))):
            one, other = ask(*arguments), ask(*arguments)
            self.assertEqual(one, other)
            self.assertIsNot(one, other)
            for name, worth in vars(one).items():
                if isinstance(worth, (list, dict)):
                    self.assertIsNot(worth, vars(other)[name], name)

    def test_copies(self):
        for made, lists in (
                (Stops, [{}]), (Turns, [(), [1], [1]]), (Same, [[]]), (Parted, [(), [1]]), (Heads, [[]]),
                (Live, [{}, {}]), (Folded, [[]]), (Tangled, [(), {}])):
            for given, kept in zip(lists, vars(made(*lists)).values()):
                self.assertEqual(kept, given)
                if isinstance(given, (list, dict)):
                    self.assertIsNot(kept, given, made)


class UnchangedTest(RoomTest):
    def test_programs_are_not_changed(self):
        plain, single = straight([("take", 0), ("tell", 0)]), Single(4, (0,), SINGLE.blocks)
        for program in (plain, single):
            before = (program.many, program.handed, program.blocks, program.span)
            for ask in (judge_runs, lives, fold):
                self.assertTrue(ask(program).shows(program))
            judge_both(program, program)
            judge_heads(program, 0, 0)
            self.assertEqual((program.many, program.handed, program.blocks, program.span), before)

    def test_papers_are_not_changed_by_showing(self):
        for paper, arguments in (
                (judge_runs(LOOP), (LOOP,)), (judge_runs(NEVER), (NEVER,)), (judge_both(LOOP, LOOP), (LOOP, LOOP)),
                (judge_both(LOOP, NEVER), (LOOP, NEVER)), (judge_heads(LOOP, 1, 2), (LOOP, 1, 2)),
                (judge_heads(FORK, 1, 3), (FORK, 1, 3)), (lives(SINGLE), (SINGLE,)), (fold(LOOP), (LOOP,)),
                (fold(RING), (RING,))):
            before = repr(vars(paper))
            self.assertIs(paper.shows(*arguments), True)
            self.assertIs(paper.shows(*arguments), True)
            self.assertEqual(repr(vars(paper)), before)
