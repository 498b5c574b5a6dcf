"""Point [1], for all modules at once, and the interface as it is listed."""

import ast
import importlib
import inspect
from pathlib import Path

from registerrooms.alike import Parted, Same, judge_both, tell_alike
from registerrooms.back import has_spare, rebuilt, to_plain
from registerrooms.counting import partings, polynomial, ways
from registerrooms.desks import Desk
from registerrooms.errors import BadProgram, BadRivals, BadSingle
from registerrooms.folding import Folded, Tangled, fold, is_foldable, what_is_left
from registerrooms.governing import Free, Governs, by_chains, governors, judge_edge, nearest, sure
from registerrooms.held import Coloured, clashes, colour, held_at, in_order, most_held, rivals_of
from registerrooms.joins import Placed, by_frontiers, defining, frontier, is_enough, place_joins
from registerrooms.leaving import Leaving, Ringed, can_all_leave, count_leavings, last_ones, look_for_leaving
from registerrooms.making import count_joins, names_of, to_single
from registerrooms.moves import Fewest, Stuck, in_row
from registerrooms.numbering import Numbered, are_one, number_all, root
from registerrooms.programs import Program
from registerrooms.rivals import Rivals
from registerrooms.roads import Avoids, Heads, Live, head_of, heads, is_live, judge_heads, live_sets, lives
from registerrooms.rooms import Roomed, fewest, fewest_rooms, free_pairs, greatest_crowd, refused, refuses
from registerrooms.runs import Stops, Turns, does_stop, judge_runs, most_steps, run, step, telling
from registerrooms.sharing import NoRoom, Shared, greatest_worth, share
from registerrooms.single import Single
from registerrooms.spilling import Loads, fewest_loads, furthest, loads
from registerrooms.texts import written, written_single
from tests.samples import FORK, LOOP, NEVER, NO_PROGRAMS, RING, SINGLE, STOP, RoomTest, straight

LIBRARY = ("heapq", "math", "itertools", "collections")
PACKAGE = Path(__file__).resolve().parent.parent / "registerrooms"

CLASSES = {
    "programs": {"Program": "__init__ __len__ __getitem__ __eq__ rows end followers edges_into points"},
    "single": {"Single": "__init__ __len__ __getitem__ __eq__ rows end followers edges_into points joins definition"},
    "runs": {"Stops": "__init__ __eq__ shows", "Turns": "__init__ __eq__ shows"},
    "alike": {"Same": "__init__ __eq__ __iter__ shows", "Parted": "__init__ __eq__ shows"},
    "roads": {"Heads": "__init__ __eq__ shows", "Avoids": "__init__ __eq__ shows", "Live": "__init__ __eq__ shows"},
    "folding": {"Folded": "__init__ __eq__ shows", "Tangled": "__init__ __eq__ shows"},
    "moves": {"Fewest": "__init__ __eq__ shows", "Stuck": "__init__ __eq__ shows"},
    "joins": {"Placed": "__init__ __eq__ shows"},
    "rivals": {"Rivals": "__init__ circle __len__ __contains__ __getitem__ __or__ __sub__ __invert__ __eq__"},
    "leaving": {"Leaving": "__init__ __eq__ shows", "Ringed": "__init__ __eq__ shows"},
    "held": {"Coloured": "__init__ __eq__ shows"},
    "rooms": {"Roomed": "__init__ __eq__ shows"},
    "sharing": {"Shared": "__init__ __eq__ shows", "NoRoom": "__init__ __eq__ shows"},
    "spilling": {"Loads": "__init__ __eq__ shows"},
    "governing": {"Governs": "__init__ __eq__ shows", "Free": "__init__ __eq__ shows"},
    "numbering": {"Numbered": "__init__ __eq__ shows"},
    "desks": {
        "Desk": "__init__ now journal __len__ put_row take_row turn_end undo branch trial attempt rooms_now is_as_begun"},
}
FUNCTIONS = {
    "runs": {
        "run": "(program, handed, inputs, *, most=100)", "telling": "(program, handed, inputs)",
        "step": "(program, state, taken=None)", "judge_runs": "(program)", "does_stop": "(program)",
        "most_steps": "(program)"},
    "alike": {"judge_both": "(one, other)", "tell_alike": "(one, other)"},
    "roads": {
        "heads": "(program, block)", "head_of": "(program, block)", "judge_heads": "(program, one, other)",
        "live_sets": "(program)", "lives": "(program)", "is_live": "(program, point, variable)"},
    "folding": {"fold": "(program)", "is_foldable": "(program)", "what_is_left": "(program)"},
    "moves": {
        "in_row": "(many, copies, free)", "count_moves": "(many, copies, free)", "hold": "(many, moves)"},
    "texts": {
        "written": "(program)", "read": "(text)", "written_single": "(single)", "read_single": "(text)"},
    "joins": {
        "defining": "(program, variable)", "place_joins": "(program, variable)",
        "is_enough": "(program, variable, blocks)", "by_frontiers": "(program, variable)",
        "frontier": "(program, block)"},
    "making": {"to_single": "(program)", "names_of": "(program)", "count_joins": "(program)"},
    "leaving": {
        "look_for_leaving": "(rivals)", "can_all_leave": "(rivals)", "count_leavings": "(rivals)",
        "last_ones": "(rivals, order)"},
    "held": {
        "held_at": "(program, point)", "clashes": "(program)", "most_held": "(program)", "rivals_of": "(program)",
        "colour": "(single)", "in_order": "(single)"},
    "rooms": {
        "fewest": "(rivals)", "fewest_rooms": "(rivals)", "greatest_crowd": "(rivals)", "free_pairs": "(rivals)",
        "refused": "(rivals, limit)", "refuses": "(rivals, limit, tree)"},
    "counting": {"partings": "(rivals)", "polynomial": "(rivals)", "ways": "(rivals, limit)"},
    "sharing": {"share": "(rivals, worths, limit)", "greatest_worth": "(rivals, worths, limit)"},
    "spilling": {
        "fewest_loads": "(row, limit)", "number_of_loads": "(row, limit)", "furthest": "(row, limit)",
        "loads": "(row, limit, keeping)"},
    "governing": {
        "sure": "(program, block)", "nearest": "(program, block)", "governors": "(program, block)",
        "judge_edge": "(program, edge, block)", "by_chains": "(program)"},
    "numbering": {"number_all": "(single)", "are_one": "(single, one, other)", "root": "(single, one)"},
    "back": {"to_plain": "(single, rooms)", "has_spare": "(single, rooms)", "rebuilt": "(program)"},
}
SIGNATURES = {
    Program: "(many, blocks, *, handed=0, span=4)", Single: "(many, handed, blocks, *, span=4)", Stops: "(heights)",
    Turns: "(handed, ahead, ring)", Same: "(pairs)", Parted: "(handed, inputs)", Heads: "(closed)", Avoids: "(road)",
    Live: "(sets, roads)", Folded: "(order)", Tangled: "(ring, roads)", Fewest: "(moves, levels)", Stuck: "(states)",
    Placed: "(blocks, reaching, reasons)", Rivals: "(many, pairs=())", Rivals.circle: "(many)", Leaving: "(order)",
    Ringed: "(ring)", Coloured: "(rooms, point)", Roomed: "(rooms, tree)", Shared: "(lot, rooms, against)",
    NoRoom: "(tree)", Loads: "(number, keeping, floors)", Governs: "(closed, road)", Free: "(road, closed)",
    Numbered: "(classes, ranks)", Desk: "(program)", Desk.put_row: "(self, block, at, row)",
    Desk.take_row: "(self, block, at)", Desk.turn_end: "(self, block, end)", Desk.undo: "(self)", Desk.branch: "(self)",
    Desk.trial: "(self)", Desk.attempt: "(self, work)", Desk.rooms_now: "(self)", Desk.is_as_begun: "(self)",
}
# Each paper, with what is asked for it, and what this is asked of.
ASKED = (
    (judge_runs, (LOOP,)), (judge_runs, (NEVER,)), (judge_both, (LOOP, LOOP)), (judge_both, (LOOP, NEVER)),
    (judge_heads, (LOOP, 1, 2)), (judge_heads, (FORK, 1, 3)), (lives, (SINGLE,)), (fold, (LOOP,)), (fold, (RING,)),
    (in_row, (3, {0: 1, 1: 0}, (2,))), (in_row, (2, {0: 1, 1: 0}, ())), (place_joins, (LOOP, 0)),
    (look_for_leaving, (Rivals.circle(3),)), (look_for_leaving, (Rivals.circle(5),)), (colour, (SINGLE,)),
    (fewest, (Rivals.circle(5),)), (share, (Rivals.circle(4), {(0, 1): 2, (0, 2): 1}, 2)),
    (share, (Rivals.circle(4), {(0, 2): 1}, 1)), (fewest_loads, ([("use", 0), ("use", 1), ("use", 0)], 1)),
    (judge_edge, (LOOP, (1, 0), 1)), (judge_edge, (FORK, (0, 0), 2)), (judge_edge, (FORK, (1, 0), 3)),
    (number_all, (SINGLE,)),
)
# All that is asked of a program or rivals, with arguments behind them that are none, either.
OF_EITHER = (
    (run, None, None), (lambda *some: list(telling(*some)), None, None), (step, None), (judge_runs,), (does_stop,),
    (most_steps,), (judge_both, None), (tell_alike, None), (heads, None), (head_of, None), (judge_heads, None, None),
    (live_sets,), (lives,), (is_live, None, None), (fold,), (is_foldable,), (what_is_left,), (held_at, None), (clashes,),
    (most_held,), (sure, None), (nearest, None), (governors, None), (judge_edge, None, None), (by_chains,),
    (Stops({}).shows,), (Turns((), [], []).shows,), (Same([]).shows, None), (Parted((), []).shows, None),
    (Heads([]).shows, None, None), (Avoids(()).shows, None, None), (Live({}, {}).shows,), (Folded([]).shows,),
    (Tangled((), {}).shows,), (Governs((), None).shows, None, None), (Free(None, ()).shows, None, None))
OF_PLAIN = (
    (written,), (defining, None), (place_joins, None), (is_enough, None, None), (by_frontiers, None), (frontier, None),
    (to_single,), (names_of,), (count_joins,), (rivals_of,), (rebuilt,), (Desk,), (Placed((), {}, []).shows, None))
OF_SINGLE = (
    (written_single,), (colour,), (in_order,), (number_all,), (are_one, None, None), (root, None), (to_plain, None),
    (has_spare, None), (Coloured((), ()).shows,), (Numbered([], {}).shows,))
OF_RIVALS = (
    (look_for_leaving,), (can_all_leave,), (count_leavings,), (last_ones, None), (fewest,), (fewest_rooms,),
    (greatest_crowd,), (free_pairs,), (refused, None), (refuses, None, ()), (partings,), (polynomial,), (ways, None),
    (share, None, None), (greatest_worth, None, None), (Leaving(()).shows,), (Ringed(()).shows,), (Roomed((), ()).shows,),
    (Shared((), (), {}).shows, None, None), (NoRoom(()).shows, None, None))


class InterfaceTest(RoomTest):
    def test_classes(self):
        for name, classes in CLASSES.items():
            module = importlib.import_module(f"registerrooms.{name}")
            for title, methods in classes.items():
                found = vars(module)[title]
                self.assertEqual(found.__module__, module.__name__)
                for method in methods.split():
                    self.assertIn(method, vars(found), title)

    def test_functions(self):
        for name, functions in FUNCTIONS.items():
            module = importlib.import_module(f"registerrooms.{name}")
            for title, signature in functions.items():
                found = vars(module)[title]
                self.assertEqual(found.__module__, module.__name__)
                self.assertEqual(str(inspect.signature(found)), signature, title)

    def test_signatures(self):
        for made, signature in SIGNATURES.items():
            self.assertEqual(str(inspect.signature(made)), signature, made)


class FilesTest(RoomTest):
    def test_files_and_sizes(self):
        for path in PACKAGE.rglob("*"):
            if "__pycache__" in path.parts:
                continue
            self.assertEqual(path.suffix, ".py")
            text = path.read_text()
            self.assertTrue(all(" " <= char <= "~" or char == "\n" for char in text), path)
            lines = text.split("\n")
            self.assertLess(len(lines), 400, path)
            self.assertLessEqual(max(len(line) for line in lines), 120, path)
            for node in ast.walk(ast.parse(text)):
                if isinstance(node, ast.FunctionDef):
                    self.assertLessEqual(node.end_lineno - node.lineno, 39, (path, node.name))

    def test_each_function_has_a_name_of_its_own(self):
        found = {}
        for path in sorted(PACKAGE.glob("*.py")):
            for node in ast.parse(path.read_text()).body:
                if isinstance(node, (ast.FunctionDef, ast.ClassDef)):
                    self.assertNotIn(node.name, found, path)
                    found[node.name] = path

    def test_no_length_of_a_range(self):
        for path in PACKAGE.glob("*.py"):
            self.assertNotIn("return len(range(", path.read_text(), path)

    def test_imports(self):
        for path in PACKAGE.glob("*.py"):
            for node in ast.walk(ast.parse(path.read_text())):
                self.assertNotIsInstance(node, ast.Import)
                if isinstance(node, ast.ImportFrom) and node.module not in LIBRARY:
                    package, _, name = node.module.partition(".")
                    self.assertEqual((package, node.level), ("registerrooms", 0), path)
                    source = ast.parse((PACKAGE / f"{name}.py").read_text())
                    own = {one.name for one in source.body if hasattr(one, "name")}
                    own |= {one.targets[0].id for one in source.body if isinstance(one, ast.Assign)}
                    self.assertLessEqual({alias.name for alias in node.names}, own, path)


class EqualityTest(RoomTest):
    def test_different_classes(self):
        self.all_different(
            Program(1, (((), STOP),)), Single(1, (0,), (((), (), STOP),)), Stops({}), Turns((), [], []), Same([]),
            Parted((), []), Heads([]), Avoids(()), Live({}, {}), Folded([]), Tangled((), {}), Fewest([], {}), Stuck([]),
            Placed((), {}, []), Rivals(1), Leaving(()), Ringed(()), Coloured((), (0, 0)), Roomed((), ()),
            Shared((), (), {}), NoRoom(()), Loads(0, [], {}), Governs((), None), Free((), None), Numbered([], {}))

    def test_what_is_returned_twice(self):
        for ask, arguments in ASKED:
            one, other = ask(*arguments), ask(*arguments)
            self.assertEqual(one, other)
            self.assertIsNot(one, other)
            for name, worth in vars(one).items():
                if isinstance(worth, (list, dict)):
                    self.assertIsNot(worth, vars(other)[name], name)

    def test_copies(self):
        for made, lists in (
                (Stops, [{}]), (Turns, [(), [1], [1]]), (Same, [[]]), (Parted, [(), [1]]), (Heads, [[]]),
                (Live, [{}, {}]), (Folded, [[]]), (Tangled, [(), {}]), (Fewest, [[], {}]), (Stuck, [[]]),
                (Placed, [(), {}, []]), (Shared, [(), (), {}]), (Loads, [0, [(0,)], {(0, ()): 0}]),
                (Numbered, [[(0,)], {}])):
            for given, kept in zip(lists, vars(made(*lists)).values()):
                self.assertEqual(kept, given)
                if isinstance(given, (list, dict)):
                    self.assertIsNot(kept, given, made)


class RefusedTest(RoomTest):
    def ask(self, asks, error, things):
        """Ask that these are refused wherever they are asked for."""
        for ask, *more in asks:
            for thing in things:
                self.assertIsNone(self.refused(error, ask, thing, *more).part, ask)

    def test_no_programs(self):
        self.ask(OF_EITHER, BadProgram, (*NO_PROGRAMS, Rivals(2)))
        self.ask(OF_PLAIN, BadProgram, (*NO_PROGRAMS, SINGLE, Rivals(2)))
        self.ask(OF_SINGLE, BadSingle, (*NO_PROGRAMS, LOOP, Rivals(2)))

    def test_no_rivals(self):
        self.ask(OF_RIVALS, BadRivals, (*NO_PROGRAMS, LOOP, SINGLE, ((0, 1),), 3))

    def test_the_second_program(self):
        for ask in (judge_both, tell_alike, Same([]).shows, Parted((), []).shows):
            for program in NO_PROGRAMS:
                self.assertIsNone(self.refused(BadProgram, ask, LOOP, program).part)


class UnchangedTest(RoomTest):
    def test_programs_are_not_changed(self):
        plain, single = straight([("take", 0), ("tell", 0)]), Single(4, (0,), SINGLE.blocks)
        for program in (plain, single):
            before = (program.many, program.handed, program.blocks, program.span)
            for ask in (judge_runs, lives, fold):
                self.assertTrue(ask(program).shows(program))
            judge_both(program, program)
            judge_heads(program, 0, 0)
            colour(single)
            to_single(plain)
            place_joins(plain, 0)
            by_chains(program)
            judge_edge(LOOP, (0, 0), 1)
            number_all(single)
            to_plain(single, colour(single).rooms)
            rebuilt(plain)
            Desk(plain).take_row(0, 0)
            self.assertEqual((program.many, program.handed, program.blocks, program.span), before)

    def test_rivals_are_not_changed(self):
        for rivals in (Rivals(3), Rivals.circle(5), ~Rivals(4)):
            before = (rivals.many, rivals.pairs)
            worths, row = {(1, 2): 1, (0, 1): 2}, [("use", 0), ("use", 1), ("use", 2), ("define", 0)]
            keeping = furthest(row, 2)
            for ask in (fewest, free_pairs, greatest_crowd, partings, polynomial, look_for_leaving):
                ask(rivals)
            refused(rivals, 2)
            ways(rivals, 2)
            share(rivals, worths, 3)
            loads(row, 2, keeping)
            self.assertEqual((rivals.many, rivals.pairs), before)
            self.assertEqual((list(worths.items()), keeping), ([((1, 2), 1), ((0, 1), 2)], furthest(row, 2)))
            self.assertEqual(row, [("use", 0), ("use", 1), ("use", 2), ("define", 0)])

    def test_papers_are_not_changed_by_showing(self):
        for ask, arguments in ASKED:
            paper = ask(*arguments)
            before = repr(vars(paper))
            self.assertIs(paper.shows(*arguments), True)
            self.assertIs(paper.shows(*arguments), True)
            self.assertEqual(repr(vars(paper)), before)
