"""In which blocks a variable of a plain program needs joins."""

from registerrooms.errors import BadBlocks
from registerrooms.programs import check_plain
from registerrooms.roads import is_way
from registerrooms.shapes import (
    are_integers, check_block, check_variable, defined_by, followers_of, is_ascending, is_integer, is_whole, reached,
)


class Placed:
    """The fewest blocks with joins, what reaches the others, and why each of them is needed."""

    def __init__(self, blocks, reaching, reasons):
        self.blocks = blocks
        self.reaching = {block: reaching[block] for block in reaching}
        self.reasons = list(reasons)

    def __eq__(self, other):
        return (isinstance(other, Placed) and self.blocks == other.blocks and self.reaching == other.reaching
                and self.reasons == other.reasons)

    def shows(self, program, variable):
        """Whether joins in these blocks are enough, and each of them is needed."""
        check_use(program, variable)
        if not are_inner(program, self.blocks):
            return False
        return self.are_enough(program, variable) and self.are_needed(program, variable)

    def are_enough(self, program, variable):
        """Whether each block without a join has the only source that reaches it."""
        if not all([is_integer(block, 1, len(program)) for block in self.reaching]):
            return False
        if not all([is_integer(source, 0, len(program)) for source in self.reaching.values()]):
            return False
        roads = roads_to_all(program.blocks, defining(program, variable) + list(self.blocks))
        return self.reaching == only_sources(roads, self.blocks) and not met(roads, self.blocks)

    def are_needed(self, program, variable):
        """Whether the reasons are those of exactly these blocks, each one behind those on which it leans."""
        sources = defining(program, variable)
        for triple in self.reasons:
            if not is_reason(program.blocks, sources, triple):
                return False
            sources = sources + [triple[0]]
        return sorted([triple[0] for triple in self.reasons]) == list(self.blocks)


def defining(program, variable):
    """The ascending list of the sources of a variable: block 0 and the blocks with a row that defines it."""
    check_use(program, variable)
    return [block for block in range(len(program)) if block == 0 or has_row(program.rows(block), variable)]


def place_joins(program, variable):
    """A Placed for a variable."""
    sources = defining(program, variable)
    reasons = []
    joined = ()
    roads = roads_to_all(program.blocks, sources)
    while met(roads, joined):
        block = met(roads, joined)[0]
        one, other = list(roads[block].values())[:2]
        reasons.append(meeting(one, other))
        joined = tuple(sorted([triple[0] for triple in reasons]))
        roads = roads_to_all(program.blocks, sources + list(joined))
    return Placed(joined, only_sources(roads, joined), reasons)


def is_enough(program, variable, blocks):
    """Whether joins in some blocks are enough for a variable."""
    check_use(program, variable)
    if not are_inner(program, blocks):
        raise BadBlocks("these are no ascending blocks other than 0")
    return not met(roads_to_all(program.blocks, defining(program, variable) + list(blocks)), blocks)


def by_frontiers(program, variable):
    """The ascending tuple of the blocks of a Placed, found by frontiers alone."""
    found = []
    waiting = defining(program, variable)
    while waiting:
        now = waiting.pop()
        for block in frontier(program, now):
            if block not in found:
                found.append(block)
                waiting.append(block)
    return tuple(sorted(found))


def frontier(program, block):
    """The ascending list of the blocks to which edges lead out of those that a block heads."""
    check_plain(program)
    check_block(program.blocks, block)
    free = reached(program.blocks, block)
    headed = [other for other in range(len(program)) if other not in free]
    led = [follower for some in headed for follower in followers_of(program.blocks, some)]
    return sorted(set([follower for follower in led if follower == block or follower in free]))


def has_row(rows, variable):
    """Whether one of some rows defines a variable."""
    return any([variable in defined_by(row) for row in rows])


def check_use(program, variable):
    """Refuse what is no plain program, and what is no variable of it."""
    check_plain(program)
    check_variable(program.many, variable)


def are_inner(program, blocks):
    """Whether something is an ascending tuple of blocks other than 0."""
    return are_integers(blocks, 1, len(program)) and is_ascending(blocks)


def roads_from(blocks, source, sources):
    """A dict from the blocks that a source reaches to a shortest road on which no other source is ahead of it."""
    roads = {}
    waiting = [(source,)]
    while waiting:
        road = waiting.pop(0)
        for follower in followers_of(blocks, road[-1]):
            if follower not in roads:
                roads[follower] = road + (follower,)
                if follower not in sources:
                    waiting.append(roads[follower])
    return roads


def roads_to_all(blocks, sources):
    """The list with, for each block, a dict from the sources that reach it to such roads."""
    found = [{} for _ in range(len(blocks))]
    for source in sorted(set(sources)):
        roads = roads_from(blocks, source, sources)
        for block in roads:
            found[block][source] = roads[block]
    return found


def met(roads, joined):
    """The ascending list of the blocks but 0 and those with joins to which two different sources reach."""
    return [block for block in range(1, len(roads)) if block not in joined and len(roads[block]) > 1]


def only_sources(roads, joined):
    """A dict from the blocks but 0 and those with joins to the first source that reaches each."""
    return {block: list(roads[block])[0] for block in range(1, len(roads)) if block not in joined}


def meeting(one, other):
    """The triple of the first block of one road, behind its source, on another one, and both up to there.

    If different sources reach the last block of both roads, nothing but their ends can be a source or a block
    with a join, so that both parts have no other block in common, and the triple is a reason.
    """
    block = [some for some in one[1:] if some in other[1:]][0]
    return (block, up_to(one, block), up_to(other, block))


def up_to(road, block):
    """The beginning of a road up to a block behind its first one."""
    return road[:road[1:].index(block) + 2]


def is_reason(blocks, sources, triple):
    """Whether something is a triple of a block and two roads from different sources that meet only there."""
    if not isinstance(triple, tuple) or len(triple) != 3:
        return False
    block, one, other = triple
    if not leads_to(blocks, sources, one, block) or not leads_to(blocks, sources, other, block):
        return False
    return one[0] != other[0] and not any([some in other for some in one if some != block])


def leads_to(blocks, sources, road, block):
    """Whether something is a road of two or more blocks from a source to a block, which is not within it."""
    if not is_way(blocks, road) or len(road) < 2 or road[0] not in sources:
        return False
    return is_whole(block) and road[-1] == block and block not in road[1:-1]
