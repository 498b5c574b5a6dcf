"""Point [1], for errors."""

from registerrooms import errors
from registerrooms.alike import judge_both
from registerrooms.errors import RoomError
from registerrooms.programs import Program
from registerrooms.roads import heads, is_live
from registerrooms.runs import judge_runs, run, step
from registerrooms.single import Single
from tests.samples import LOOP, NEVER, SINGLE, STOP, RoomTest, straight

NAMES = (
    "BadProgram", "BadSingle", "BadBlock", "BadPoint", "BadVariable", "BadHanded", "BadInputs", "BadMost", "BadState",
    "BadMoves", "Unlike", "TooLarge", "NothingDone", "BadText", "BadRivals", "BadLimit", "BadOrder", "BadWorths",
    "BadMentions", "BadBlocks", "BadEdge", "NoWayOut", "BadRooms", "BadEdit",
)


class ErrorsTest(RoomTest):
    def test_all_are_direct_subclasses(self):
        self.assertEqual(RoomError.__bases__, (ValueError,))
        for name in NAMES:
            with self.subTest(name=name):
                self.assertEqual(getattr(errors, name).__bases__, (RoomError,))

    def test_attributes(self):
        for name, attribute, worth in (
                ("BadProgram", "part", "many"), ("BadSingle", "part", "strict"), ("BadInputs", "index", 3),
                ("BadText", "row", 4), ("BadRivals", "part", "pairs"), ("BadMentions", "index", 0),
                ("NoWayOut", "block", 2)):
            with self.subTest(name=name):
                self.assertEqual(getattr(getattr(errors, name)(worth), attribute), worth)
                self.assertIsNone(getattr(getattr(errors, name)(None), attribute))

    def test_raised_with_attributes(self):
        self.assertEqual(self.refused(errors.BadProgram, Program, 0, LOOP.blocks).part, "many")
        self.assertIsNone(self.refused(errors.BadProgram, judge_runs, None).part)
        self.assertEqual(self.refused(errors.BadSingle, Single, 1, (), (((), (), STOP),)).part, "defined")
        self.refused(errors.BadBlock, heads, LOOP, 3)
        self.refused(errors.BadPoint, is_live, LOOP, (3, 0), 0)
        self.refused(errors.BadVariable, is_live, LOOP, (0, 0), 2)
        self.refused(errors.BadHanded, run, LOOP, (0,), [])
        self.assertEqual(self.refused(errors.BadInputs, run, LOOP, (), [0, 4]).index, 1)
        self.refused(errors.BadMost, run, LOOP, (), [], most=0)
        self.refused(errors.BadState, step, LOOP, (0, 0, (0,)))
        self.refused(errors.Unlike, judge_both, LOOP, SINGLE)
        self.refused(errors.TooLarge, judge_runs, straight([("tell", 0)] * 5, span=8, handed=3))

    def test_refusing_changes_nothing(self):
        self.refused(errors.BadMost, run, NEVER, (), [], most=0)
        self.assertEqual(run(NEVER, (), [], most=1), [("silent", None)])
