"""Plain programs."""

from registerrooms.errors import BadProgram
from registerrooms.shapes import all_points, are_blocks, check_block, edges_of, followers_of, is_integer

MOST_VARIABLES = 8
MOST_HANDED = 3
MOST_SPAN = 8
MOST_ROWS = 12


class Program:
    """A plain program."""

    def __init__(self, many, blocks, *, handed=0, span=4):
        part = wrong_part(many, blocks, handed, span)
        if part is not None:
            raise BadProgram(part)
        self.many = many
        self.blocks = blocks
        self.handed = handed
        self.span = span

    def __eq__(self, other):
        return (isinstance(other, Program) and self.many == other.many and self.blocks == other.blocks
                and self.handed == other.handed and self.span == other.span)

    def __len__(self):
        return len(self.blocks)

    def __getitem__(self, block):
        check_block(self.blocks, block)
        return self.blocks[block]

    def __iter__(self):
        raise TypeError("programs are not iterated over")

    def rows(self, block):
        """The rows of a block."""
        check_block(self.blocks, block)
        return self.blocks[block][0]

    def end(self, block):
        """The end of a block."""
        check_block(self.blocks, block)
        return self.blocks[block][1]

    def followers(self, block):
        """The tuple of the blocks to which the end of a block leads, one for each way."""
        check_block(self.blocks, block)
        return followers_of(self.blocks, block)

    def edges_into(self, block):
        """The ascending list of the edges into a block."""
        check_block(self.blocks, block)
        return edges_of(self.blocks, block)

    @property
    def points(self):
        """The ascending list of all points."""
        return all_points(self.blocks)


def check_plain(program):
    """Refuse what is no plain program."""
    if not isinstance(program, Program):
        raise BadProgram(None)


def wrong_part(many, blocks, handed, span):
    """The first part that is not as in a plain program, None if all are."""
    if not is_integer(many, 1, MOST_VARIABLES + 1):
        return "many"
    if not is_integer(handed, 0, min(MOST_HANDED, many) + 1):
        return "handed"
    if not is_integer(span, 2, MOST_SPAN + 1):
        return "span"
    if not are_blocks(blocks, 2, MOST_ROWS, many, span):
        return "blocks"
    return None
