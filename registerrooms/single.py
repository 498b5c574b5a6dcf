"""Single programs, in which each variable has one definition."""

from registerrooms.errors import BadProgram, BadSingle
from registerrooms.programs import MOST_HANDED, MOST_SPAN, Program
from registerrooms.shapes import (
    all_points, are_blocks, are_integers, check_block, check_variable, defined_ahead, edges_of, followers_of,
    is_integer, reached, used_behind,
)

MOST_SINGLE = 48
MOST_ROWS = 24


class Single:
    """A single program."""

    def __init__(self, many, handed, blocks, *, span=4):
        part = wrong_single_part(many, handed, blocks, span)
        if part is not None:
            raise BadSingle(part)
        self.many = many
        self.handed = handed
        self.blocks = blocks
        self.span = span
        self._definitions = {variable: point for variable, point in all_definitions(handed, blocks)}
        self._without = all_without(blocks)

    def __eq__(self, other):
        return (isinstance(other, Single) and self.many == other.many and self.handed == other.handed
                and self.blocks == other.blocks and self.span == other.span)

    def __len__(self):
        return len(self.blocks)

    def __getitem__(self, block):
        check_block(self.blocks, block)
        return self.blocks[block]

    def __iter__(self):
        raise TypeError("single programs are not iterated over")

    def rows(self, block):
        """The rows of a block."""
        check_block(self.blocks, block)
        return self.blocks[block][1]

    def end(self, block):
        """The end of a block."""
        check_block(self.blocks, block)
        return self.blocks[block][2]

    def followers(self, block):
        """The tuple of the blocks to which the end of a block leads, one for each way."""
        check_block(self.blocks, block)
        return followers_of(self.blocks, block)

    def edges_into(self, block):
        """The ascending list of the edges into a block."""
        check_block(self.blocks, block)
        return edges_of(self.blocks, block)

    @property
    def points(self):
        """The ascending list of all points."""
        return all_points(self.blocks)

    def joins(self, block):
        """The joins of a block."""
        check_block(self.blocks, block)
        return self.blocks[block][0]

    def definition(self, variable):
        """The point of the definition of a variable."""
        check_variable(self.many, variable)
        return self._definitions[variable]

    def is_sure(self, variable, point):
        """Whether the definition of a variable has been passed on all roads to a point."""
        return is_behind(self._definitions[variable], point, self._without)


def check_single(single):
    """Refuse what is no single program."""
    if not isinstance(single, Single):
        raise BadSingle(None)


def check_either(program):
    """Refuse what is neither a plain nor a single program."""
    if not isinstance(program, Program) and not isinstance(program, Single):
        raise BadProgram(None)


def wrong_single_part(many, handed, blocks, span):
    """The first part that is not as in a single program, None if all are."""
    if not is_integer(many, 1, MOST_SINGLE + 1):
        return "many"
    if not is_integer(span, 2, MOST_SPAN + 1):
        return "span"
    if not are_integers(handed, 0, many) or len(handed) > MOST_HANDED:
        return "handed"
    if not are_blocks(blocks, 3, MOST_ROWS, many, span):
        return "blocks"
    definitions = all_definitions(handed, blocks)
    if sorted([variable for variable, _ in definitions]) != list(range(many)):
        return "defined"
    if not are_joins_full(blocks) or not are_uses_behind(definitions, blocks):
        return "strict"
    return None


def all_definitions(handed, blocks):
    """The list of all pairs of a variable and the point of a definition of it."""
    found = [(variable, (0, 0)) for variable in handed]
    return found + [(variable, point) for point in all_points(blocks) for variable in defined_ahead(blocks, point)]


def are_joins_full(blocks):
    """Whether each join has a variable for each edge into its block, and there is one."""
    for block in range(len(blocks)):
        edges = len(edges_of(blocks, block))
        if not all([edges > 0 and len(sources) == edges for _, sources in blocks[block][0]]):
            return False
    return True


def are_uses_behind(definitions, blocks):
    """Whether each use stands behind its definition, one for each variable, on all roads."""
    places = {variable: point for variable, point in definitions}
    without = all_without(blocks)
    uses = [(variable, point) for point in all_points(blocks) for variable in used_behind(blocks, point)]
    return all([is_behind(places[variable], point, without) for variable, point in uses])


def all_without(blocks):
    """The list with, for each block, a dict of the blocks to which a road leads that is not over it."""
    return [reached(blocks, block) for block in range(len(blocks))]


def is_behind(definition, point, without):
    """Whether a definition at one point has been passed on all roads to another one."""
    if definition[0] == point[0]:
        return definition[1] <= point[1]
    return point[0] not in without[definition[0]]
