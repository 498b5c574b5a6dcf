"""Which blocks come for sure behind others, and which edges govern a block."""

from registerrooms.errors import BadEdge, NoWayOut
from registerrooms.roads import is_way
from registerrooms.shapes import are_integers, check_block, edges_of, followers_of, is_integer
from registerrooms.single import check_either


class Governs:
    """Blocks out of which edges lead only to one, and a road around this one: evidence that an edge governs it."""

    def __init__(self, closed, road):
        self.closed = closed
        self.road = road

    def __eq__(self, other):
        return isinstance(other, Governs) and self.closed == other.closed and self.road == other.road

    def shows(self, program, edge, block):
        """Whether these show that an edge governs a block."""
        check_judged(program, edge, block)
        blocks = program.blocks
        if not is_closed(blocks, self.closed, followers_of(blocks, edge[0])[edge[1]], block):
            return False
        if edge[0] == block:
            return self.road is None
        return is_road_out(blocks, self.road, edge[0], block)


class Free:
    """A road out around a block, or blocks out of which edges lead only to it: evidence that no edge governs it."""

    def __init__(self, road, closed):
        self.road = road
        self.closed = closed

    def __eq__(self, other):
        return isinstance(other, Free) and self.road == other.road and self.closed == other.closed

    def shows(self, program, edge, block):
        """Whether the road or the blocks show that an edge does not govern a block."""
        check_judged(program, edge, block)
        blocks = program.blocks
        if self.closed is None:
            return is_road_out(blocks, self.road, followers_of(blocks, edge[0])[edge[1]], block)
        return self.road is None and edge[0] != block and is_closed(blocks, self.closed, edge[0], block)


def sure(program, block):
    """The ascending list of the blocks that come for sure behind a block."""
    check_outs(program)
    check_block(program.blocks, block)
    return all_sure(program.blocks)[block]


def nearest(program, block):
    """The nearest other block that comes for sure behind a block, None if there is none."""
    check_outs(program)
    check_block(program.blocks, block)
    return nearest_of(all_sure(program.blocks), block)


def governors(program, block):
    """The ascending list of the edges that govern a block."""
    check_outs(program)
    check_block(program.blocks, block)
    found = all_sure(program.blocks)
    return [edge for edge, target in edges_with_targets(program.blocks)
            if block in found[target] and (block == edge[0] or block not in found[edge[0]])]


def judge_edge(program, edge, block):
    """A Governs or a Free: whether an edge governs a block."""
    check_judged(program, edge, block)
    blocks = program.blocks
    target = followers_of(blocks, edge[0])[edge[1]]
    outs = ways_out(blocks, block)
    if target in outs:
        return Free(road_out(outs, target), None)
    closed = tuple([other for other in range(len(blocks)) if other != block and other not in outs])
    if edge[0] == block:
        return Governs(closed, None)
    return Governs(closed, road_out(outs, edge[0])) if edge[0] in outs else Free(None, closed)


def by_chains(program):
    """A dict from all edges, ascending, to the ascending lists of the blocks that they govern.

    These are a chain of nearest blocks, from the one to which the edge leads on, ahead of the nearest one of the
    block from which it leads.
    """
    check_outs(program)
    found = all_sure(program.blocks)
    chains = {}
    for edge, target in edges_with_targets(program.blocks):
        last = nearest_of(found, edge[0])
        chain = []
        block = target
        while block != last:
            chain.append(block)
            block = nearest_of(found, block)
        chains[edge] = sorted(chain)
    return chains


def check_outs(program):
    """Refuse what is no program, and one with a block from which no road leads to a stop."""
    check_either(program)
    outs = ways_out(program.blocks, None)
    shut = [block for block in range(len(program)) if block not in outs]
    if shut:
        raise NoWayOut(shut[0])


def check_judged(program, edge, block):
    """Refuse what is no program with roads to a stop, no edge, or no block."""
    check_outs(program)
    if not is_edge(program.blocks, edge):
        raise BadEdge("this is no edge of the program")
    check_block(program.blocks, block)


def is_edge(blocks, edge):
    """Whether something is a pair of a block and a way."""
    if not isinstance(edge, tuple) or len(edge) != 2 or not is_integer(edge[0], 0, len(blocks)):
        return False
    return is_integer(edge[1], 0, len(followers_of(blocks, edge[0])))


def edges_with_targets(blocks):
    """The ascending list of pairs of an edge and the block to which it leads."""
    return [((block, way), target) for block in range(len(blocks))
            for way, target in enumerate(followers_of(blocks, block))]


def is_stop(blocks, block):
    """Whether a block stops."""
    return blocks[block][-1][0] == "stop"


def is_closed(blocks, closed, first, block):
    """Whether something is a tuple of blocks that do not stop, with one, out of which edges lead only to a block."""
    if not are_integers(closed, 0, len(blocks)) or block in closed or (first != block and first not in closed):
        return False
    led = [follower for some in closed for follower in followers_of(blocks, some)]
    return not any([is_stop(blocks, some) for some in closed]) and all([one == block or one in closed for one in led])


def is_road_out(blocks, road, first, block):
    """Whether something is a road from one block to a stop, on which another one is not."""
    return is_way(blocks, road) and road[0] == first and is_stop(blocks, road[-1]) and block not in road


def ways_out(blocks, barred):
    """A dict from each block from which a road leads to a stop, not over a barred one, to the next block there.

    These roads are shortest ones; a block that stops has None, and None is barred if no block is.
    """
    outs = {block: None for block in range(len(blocks)) if block != barred and is_stop(blocks, block)}
    waiting = list(outs)
    while waiting:
        block = waiting.pop(0)
        for source, _ in edges_of(blocks, block):
            if source != barred and source not in outs:
                outs[source] = block
                waiting.append(source)
    return outs


def road_out(outs, block):
    """The road from a block to a stop that such a dict tells."""
    road = [block]
    while outs[road[-1]] is not None:
        road.append(outs[road[-1]])
    return tuple(road)


def all_sure(blocks):
    """The list with, for each block, the ascending list of the blocks that come for sure behind it."""
    outs = [ways_out(blocks, block) for block in range(len(blocks))]
    return [[other for other in range(len(blocks)) if block not in outs[other]] for block in range(len(blocks))]


def nearest_of(found, block):
    """The nearest other block that comes for sure behind a block, None if there is none.

    Behind the nearest one all others come for sure, and so more of them than behind any other.
    """
    return max([one for one in found[block] if one != block], key=lambda one: len(found[one]), default=None)
