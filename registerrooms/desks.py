"""Desks, on which a plain program is changed, and changed back."""

from registerrooms.alike import tell_alike
from registerrooms.errors import BadEdit, NothingDone
from registerrooms.held import most_held
from registerrooms.making import to_single
from registerrooms.programs import Program, check_plain
from registerrooms.shapes import is_integer


class Layer:
    """The programs of a desk, each behind one more change than the one ahead of it, and these changes.

    In a trial, the layer has its own copies, the number of changes that were done ahead of the trial, and the layer
    that comes back at its end.
    """

    def __init__(self, programs, changes, outer):
        self.programs = list(programs)
        self.changes = list(changes)
        self.fixed = 0 if outer is None else len(changes)
        self.outer = outer


class Desk:
    """A desk with a plain program, which is changed."""

    def __init__(self, program):
        check_plain(program)
        self.layer = Layer([program], [], None)

    def __len__(self):
        return len(self.layer.changes)

    @property
    def now(self):
        """The program as it is."""
        return self.layer.programs[-1]

    @property
    def journal(self):
        """The list of all changes, in order."""
        return list(self.layer.changes)

    def put_row(self, block, at, row):
        """Put a row into a block ahead of the one with an index, or behind all; the program behind it."""
        rows = self.now.rows(block)
        check_index(at, len(rows) + 1)
        return self.give_block(block, (rows[:at] + (row,) + rows[at:], self.now.end(block)), ("put", block, at, row))

    def take_row(self, block, at):
        """Take the row with an index out of a block; the program behind it."""
        rows = self.now.rows(block)
        check_index(at, len(rows))
        return self.give_block(block, (rows[:at] + rows[at + 1:], self.now.end(block)), ("take", block, at))

    def turn_end(self, block, end):
        """Give a block another end; the program behind it."""
        return self.give_block(block, (self.now.rows(block), end), ("turn", block, end))

    def give_block(self, block, parts, change):
        """Give a block other parts by a change, unless there would be no program; the program behind it."""
        old = self.now
        blocks = old.blocks[:block] + (parts,) + old.blocks[block + 1:]
        program = Program(old.many, blocks, handed=old.handed, span=old.span)
        self.layer.programs.append(program)
        self.layer.changes.append(change)
        return program

    def undo(self):
        """Take the last change back; this change."""
        if len(self.layer.changes) == self.layer.fixed:
            raise NothingDone("there is no change that could be taken back")
        self.layer.programs.pop()
        return self.layer.changes.pop()

    def branch(self):
        """An independent desk on which everything is the same, but that is in no trial."""
        desk = Desk(self.layer.programs[0])
        desk.layer = Layer(self.layer.programs, self.layer.changes, None)
        return desk

    def trial(self):
        """A trial, at whose end everything is as at its beginning."""
        return Trial(self)

    def attempt(self, work):
        """What a function returns that is called with the desk in a trial."""
        with self.trial() as held:
            return work(held)

    def rooms_now(self):
        """How many variables are held at one point at most, if the program is made single."""
        return most_held(to_single(self.now))

    def is_as_begun(self):
        """Whether the program tells alike with that at the beginning."""
        return tell_alike(self.now, self.layer.programs[0])


class Trial:
    """A with-block at whose end everything on a desk is as at its beginning."""

    def __init__(self, desk):
        self.desk = desk

    def __enter__(self):
        desk = self.desk
        desk.layer = Layer(desk.layer.programs, desk.layer.changes, desk.layer)
        return desk

    def __exit__(self, kind, value, trace):
        desk = self.desk
        desk.layer = desk.layer.outer


def check_index(at, top):
    """Refuse what is no integer from 0 on that is less than top."""
    if not is_integer(at, 0, top):
        raise BadEdit("this is no place for such a change")
