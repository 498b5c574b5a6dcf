"""The errors of the package."""


class RoomError(ValueError):
    """Any error that the package documents."""


class BadProgram(RoomError):
    """No program; part tells which part is wrong, None if it is none at all."""

    def __init__(self, part=None):
        super().__init__(f"this is no program, part: {part}")
        self.part = part


class BadSingle(RoomError):
    """No single program; part tells which part is wrong, None if it is none at all."""

    def __init__(self, part=None):
        super().__init__(f"this is no single program, part: {part}")
        self.part = part


class BadBlock(RoomError):
    """No block of the program."""


class BadPoint(RoomError):
    """No point of the program."""


class BadVariable(RoomError):
    """No variable."""


class BadHanded(RoomError):
    """No numbers that can be handed in."""


class BadInputs(RoomError):
    """No numbers that can be taken; index tells which one is none, None if it is not one of them."""

    def __init__(self, index=None):
        super().__init__(f"these are no numbers that can be taken, index: {index}")
        self.index = index


class BadMost(RoomError):
    """No number of events."""


class BadState(RoomError):
    """No state of the program."""


class BadMoves(RoomError):
    """No places, copies, free places or moves."""


class Unlike(RoomError):
    """Two things that are of different sizes."""


class TooLarge(RoomError):
    """More than there may be."""


class NothingDone(RoomError):
    """Nothing that could be undone."""


class BadText(RoomError):
    """No text of a program; row tells the first wrong line, None if these are no lines."""

    def __init__(self, row=None):
        super().__init__(f"this is no text of a program, row: {row}")
        self.row = row


class BadRivals(RoomError):
    """No rivals; part tells which part is wrong, None if these are none at all."""

    def __init__(self, part=None):
        super().__init__(f"these are no rivals, part: {part}")
        self.part = part


class BadLimit(RoomError):
    """No limit."""


class BadOrder(RoomError):
    """No order of all variables."""


class BadWorths(RoomError):
    """No worths of pairs."""


class BadMentions(RoomError):
    """No mentions; index tells which one is none, None if they are no row."""

    def __init__(self, index=None):
        super().__init__(f"these are no mentions, index: {index}")
        self.index = index


class BadBlocks(RoomError):
    """No ascending blocks."""


class BadEdge(RoomError):
    """No edge of the program."""


class NoWayOut(RoomError):
    """A block from which no road leads to a stop."""

    def __init__(self, block=None):
        super().__init__(f"no road leads to a stop from block {block}")
        self.block = block


class BadRooms(RoomError):
    """No rooms that fit."""


class BadEdit(RoomError):
    """No change of a program."""
