"""Whether all blocks of a program fold into one."""

from registerrooms.roads import is_road
from registerrooms.shapes import are_integers, followers_of, is_integer, reached, road_to
from registerrooms.single import check_either


class Folded:
    """An order in which all blocks can be taken in: evidence that a program folds."""

    def __init__(self, order):
        self.order = list(order)

    def __eq__(self, other):
        return isinstance(other, Folded) and self.order == other.order

    def shows(self, program):
        """Whether all blocks of a program but 0 can be taken in in this order."""
        check_either(program)
        if not all([is_integer(block, 1, len(program)) for block in self.order]):
            return False
        links = all_links(program.blocks)
        for block in self.order:
            if block not in can_be_taken(links):
                return False
            links = with_taken(links, block)
        return len(links) == 1


class Tangled:
    """A ring of blocks of which none heads all others: evidence that a program does not fold."""

    def __init__(self, ring, roads):
        self.ring = ring
        self.roads = {block: roads[block] for block in roads}

    def __eq__(self, other):
        return isinstance(other, Tangled) and self.ring == other.ring and self.roads == other.roads

    def shows(self, program):
        """Whether this is such a ring of a program."""
        check_either(program)
        if not is_ring(program.blocks, self.ring) or len(self.roads) != len(self.ring):
            return False
        return all([self.is_avoided(program, block) for block in self.roads])

    def is_avoided(self, program, block):
        """Whether something is a block of the ring with a road to another one, on which it is not."""
        if not is_integer(block, 0, len(program)) or block not in self.ring:
            return False
        road = self.roads[block]
        return is_road(program.blocks, road) and road[-1] in self.ring and block not in road


def fold(program):
    """A Folded or a Tangled of a program."""
    check_either(program)
    order, links = folding(program.blocks)
    if len(links) == 1:
        return Folded(order)
    ring = knot(program.blocks)
    return Tangled(ring, {block: road_around(program.blocks, ring, block) for block in ring})


def is_foldable(program):
    """Whether all blocks of a program fold into one."""
    return isinstance(fold(program), Folded)


def what_is_left(program):
    """A dict from the blocks that are left to the ascending lists of their links, when no more can be taken in."""
    check_either(program)
    return folding(program.blocks)[1]


def all_links(blocks):
    """A dict from all blocks to the ascending lists of their other followers."""
    links = {}
    for block in range(len(blocks)):
        links[block] = sorted(set([other for other in followers_of(blocks, block) if other != block]))
    return links


def linked_to(links, block):
    """The ascending list of the blocks from which links lead to a block."""
    return [source for source in links if block in links[source]]


def can_be_taken(links):
    """The ascending list of all blocks that can be taken into another one."""
    return [block for block in links if block != 0 and len(linked_to(links, block)) == 1]


def with_taken(links, block):
    """The links behind taking a block into the only one from which links lead to it."""
    home = linked_to(links, block)[0]
    joined = sorted(set([other for other in links[home] + links[block] if other not in (home, block)]))
    return {other: joined if other == home else links[other] for other in links if other != block}


def folding(blocks):
    """The list of the blocks that are taken in, one after the other, until no more can be, and what is left."""
    order = []
    links = all_links(blocks)
    while can_be_taken(links):
        order.append(can_be_taken(links)[0])
        links = with_taken(links, order[-1])
    return order, links


def is_ring(blocks, ring):
    """Whether something is a tuple of two or more different blocks, each a follower of the one ahead of it."""
    if not are_integers(ring, 0, len(blocks)) or len(ring) < 2 or len(set(ring)) != len(ring):
        return False
    return all([behind in followers_of(blocks, block) for block, behind in zip(ring, ring[1:] + ring[:1])])


def grow(blocks, road, roads):
    """Put into roads those of a depth-first tree, from the end of a road on."""
    roads[road[-1]] = road
    for follower in followers_of(blocks, road[-1]):
        if follower not in roads:
            grow(blocks, road + (follower,), roads)


def knot(blocks):
    """A ring of which no block heads all others, in a program that does not fold.

    An edge that leads back along a road of a depth-first tree closes a ring, of which no block but the one to
    which it leads can head that one, as none is on the road to it. In a program that does not fold, there is
    such an edge that leads to a block that does not head the one where it begins.
    """
    roads = {}
    grow(blocks, (0,), roads)
    backs = [(block, target) for block in roads for target in followers_of(blocks, block) if target in roads[block]]
    block, target = [back for back in backs if back[0] in reached(blocks, back[1])][0]
    return roads[block][roads[block].index(target):]


def road_around(blocks, ring, block):
    """A road to another block of a ring on which a block of it is not."""
    roads = [road_to(blocks, other, block) for other in ring if other != block]
    return [road for road in roads if road is not None][0]
