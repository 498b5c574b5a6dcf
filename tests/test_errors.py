"""Point [1], for errors."""

from registerrooms import errors
from registerrooms.errors import RoomError
from registerrooms.programs import Program
from registerrooms.single import Single
from tests.samples import LOOP, SINGLE, STOP, RoomTest

NAMES = (
    "BadProgram", "BadSingle", "BadBlock", "BadPoint", "BadVariable", "BadHanded", "BadInputs", "BadMost", "BadState",
    "BadMoves", "Unlike", "TooLarge", "NothingDone", "BadText", "BadRivals", "BadLimit", "BadOrder", "BadWorths",
    "BadMentions", "BadBlocks", "BadEdge", "NoWayOut", "BadRooms", "BadEdit",
)


class ErrorsTest(RoomTest):
    def test_all_are_direct_subclasses(self):
        self.assertEqual(RoomError.__bases__, (ValueError,))
        for name in NAMES:
            with self.subTest(name=name):
                self.assertEqual(getattr(errors, name).__bases__, (RoomError,))

    def test_attributes(self):
        for name, attribute, worth in (
                ("BadProgram", "part", "many"), ("BadSingle", "part", "strict"), ("BadInputs", "index", 3),
                ("BadText", "row", 4), ("BadRivals", "part", "pairs"), ("BadMentions", "index", 0),
                ("NoWayOut", "block", 2)):
            with self.subTest(name=name):
                self.assertEqual(getattr(getattr(errors, name)(worth), attribute), worth)
                self.assertIsNone(getattr(getattr(errors, name)(None), attribute))

    def test_raised_with_attributes(self):
        self.assertEqual(self.refused(errors.BadProgram, Program, 0, LOOP.blocks).part, "many")
        self.assertEqual(self.refused(errors.BadSingle, Single, 1, (), (((), (), STOP),)).part, "defined")
        self.refused(errors.BadBlock, LOOP.rows, 3)
        self.refused(errors.BadVariable, SINGLE.definition, 4)
