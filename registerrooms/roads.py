"""Which blocks head others, and which variables are live where."""

from registerrooms.shapes import (
    all_points, are_integers, check_block, check_point, check_variable, defined_ahead, edges_of, followers_of,
    is_integer, is_point, reached, road_to, used_behind,
)
from registerrooms.single import check_either


class Heads:
    """Blocks out of which edges lead only to one: evidence that this one heads others."""

    def __init__(self, closed):
        self.closed = list(closed)

    def __eq__(self, other):
        return isinstance(other, Heads) and self.closed == other.closed

    def shows(self, program, one, other):
        """Whether the blocks show that one block heads another one."""
        check_blocks(program, one, other)
        blocks = program.blocks
        if not all([is_integer(block, 0, len(blocks)) for block in self.closed]):
            return False
        if one == other or one == 0:
            return True
        if 0 not in self.closed or one in self.closed or other in self.closed:
            return False
        led = [follower for block in self.closed for follower in followers_of(blocks, block)]
        return all([block == one or block in self.closed for block in led])


class Avoids:
    """A road to a block on which another one is not: evidence that this one does not head it."""

    def __init__(self, road):
        self.road = road

    def __eq__(self, other):
        return isinstance(other, Avoids) and self.road == other.road

    def shows(self, program, one, other):
        """Whether the road shows that one block does not head another one."""
        check_blocks(program, one, other)
        return is_road(program.blocks, self.road) and self.road[-1] == other and one not in self.road


class Live:
    """The variables that are live at each point, with roads to uses of them."""

    def __init__(self, sets, roads):
        self.sets = {point: sets[point] for point in sets}
        self.roads = {place: roads[place] for place in roads}

    def __eq__(self, other):
        return isinstance(other, Live) and self.sets == other.sets and self.roads == other.roads

    def shows(self, program):
        """Whether the sets are what is live in a program, and the roads lead to uses."""
        check_either(program)
        if not all([is_point(program.blocks, point) for point in self.sets]):
            return False
        if not all([are_integers(variables, 0, program.many) for variables in self.sets.values()]):
            return False
        if self.sets != live_sets(program) or len(self.roads) != sum([len(some) for some in self.sets.values()]):
            return False
        return all([self.is_shown(program, place) for place in self.roads])

    def is_shown(self, program, place):
        """Whether something is a pair of a point and a variable, with a road to a use, so that it is live there."""
        if not isinstance(place, tuple) or len(place) != 2 or not is_point(program.blocks, place[0]):
            return False
        if not is_integer(place[1], 0, program.many):
            return False
        return leads_to_use(program.blocks, place[0], place[1], self.roads[place])


def heads(program, block):
    """The ascending list of all blocks that head a block."""
    check_either(program)
    check_block(program.blocks, block)
    return [one for one in range(len(program)) if block not in reached(program.blocks, one)]


def head_of(program, block):
    """The nearest block that heads a block, None for block 0."""
    others = [one for one in heads(program, block) if one != block]
    return max(others, key=lambda one: len(heads(program, one)), default=None)


def judge_heads(program, one, other):
    """A Heads or an Avoids: whether one block heads another one."""
    check_blocks(program, one, other)
    if one == other:
        return Heads([])
    road = road_to(program.blocks, other, one)
    if road is None:
        return Heads(sorted(reached(program.blocks, one)))
    return Avoids(road)


def lives(program):
    """A Live of a program."""
    check_either(program)
    found = all_roads(program)
    sets = sets_of(program, found)
    return Live(sets, {(point, one): found[one][point] for point in sets for one in sets[point]})


def live_sets(program):
    """A dict from all points to the ascending tuples of the variables that are live there."""
    check_either(program)
    return sets_of(program, all_roads(program))


def is_live(program, point, variable):
    """Whether a variable is live at a point."""
    check_either(program)
    check_point(program.blocks, point)
    check_variable(program.many, variable)
    return point in roads_to_uses(program.blocks, variable)


def check_blocks(program, one, other):
    """Refuse what is no program, and what are no blocks of it."""
    check_either(program)
    check_block(program.blocks, one)
    check_block(program.blocks, other)


def is_way(blocks, road):
    """Whether something is a road, from whatever block."""
    if not are_integers(road, 0, len(blocks)) or len(road) == 0:
        return False
    return all([behind in followers_of(blocks, block) for block, behind in zip(road, road[1:])])


def is_road(blocks, road):
    """Whether something is a road from block 0."""
    return is_way(blocks, road) and road[0] == 0


def points_behind(blocks, point):
    """The list of all points to which a step leads from a point."""
    block, done = point
    if done < len(blocks[block][-2]):
        return [(block, done + 1)]
    return [(follower, 0) for follower in followers_of(blocks, block)]


def points_ahead(blocks, point):
    """The list of all points from which a step leads to a point."""
    block, done = point
    if done > 0:
        return [(block, done - 1)]
    return [(source, len(blocks[source][-2])) for source, _ in edges_of(blocks, block)]


def roads_to_uses(blocks, variable):
    """A dict from the points at which a variable is live to the shortest roads to uses of it."""
    roads = {point: (point,) for point in all_points(blocks) if variable in used_behind(blocks, point)}
    waiting = list(roads)
    while waiting:
        point = waiting.pop(0)
        if variable not in defined_ahead(blocks, point):
            for ahead in points_ahead(blocks, point):
                if ahead not in roads:
                    roads[ahead] = (ahead,) + roads[point]
                    waiting.append(ahead)
    return roads


def all_roads(program):
    """The list with, for each variable, its roads to uses."""
    return [roads_to_uses(program.blocks, variable) for variable in range(program.many)]


def sets_of(program, found):
    """A dict from all points to the ascending tuples of the variables that have a road to a use there."""
    sets = {}
    for point in program.points:
        sets[point] = tuple([variable for variable in range(program.many) if point in found[variable]])
    return sets


def leads_to_use(blocks, point, variable, road):
    """Whether something is a road of points from a point to a use of a variable, on which it is not defined."""
    if not isinstance(road, tuple) or not all([is_point(blocks, some) for some in road]):
        return False
    if len(road) == 0 or road[0] != point or variable not in used_behind(blocks, road[-1]):
        return False
    if not all([behind in points_behind(blocks, ahead) for ahead, behind in zip(road, road[1:])]):
        return False
    return not any([variable in defined_ahead(blocks, behind) for behind in road[1:]])
