"""Which variables are held at one point, and rooms for those of single programs."""

from registerrooms.programs import check_plain
from registerrooms.rivals import Rivals
from registerrooms.roads import heads, live_sets
from registerrooms.shapes import are_integers, check_point, defined_ahead, is_point
from registerrooms.single import Single, check_either, check_single


class Coloured:
    """Rooms for the variables of a single program, and a point at which fewer are not enough."""

    def __init__(self, rooms, point):
        self.rooms = rooms
        self.point = point

    def __eq__(self, other):
        return isinstance(other, Coloured) and self.rooms == other.rooms and self.point == other.point

    def shows(self, single):
        """Whether the rooms fit, and as many variables are held at the point as there are rooms."""
        check_single(single)
        if not do_fit(single, self.rooms) or not is_point(single.blocks, self.point):
            return False
        count = len(set(self.rooms))
        return max(self.rooms) == count - 1 and len(held_at(single, self.point)) == count


def held_at(program, point):
    """The ascending tuple of the variables that are held at a point."""
    check_either(program)
    check_point(program.blocks, point)
    return all_held(program)[point]


def clashes(program):
    """The ascending list of all pairs of variables that are held at one point."""
    check_either(program)
    return sorted(set([pair for variables in all_held(program).values() for pair in pairs_among(variables)]))


def most_held(program):
    """The greatest number of variables that are held at one point."""
    check_either(program)
    return max([len(variables) for variables in all_held(program).values()])


def rivals_of(program):
    """The rivals of a plain program."""
    check_plain(program)
    return Rivals(program.many, tuple(clashes(program)))


def colour(single):
    """A Coloured of a single program.

    What clashes with a variable and stands ahead of it in order is held where it is defined, as one of two
    definitions is on all roads to the other one. So a room that is new there is one more than are held besides.
    """
    check_single(single)
    pairs = clashes(single)
    rooms = {}
    for variable in in_order(single):
        near = [other for pair in pairs if variable in pair for other in pair]
        taken = [rooms[other] for other in near if other in rooms]
        rooms[variable] = [room for room in range(single.many) if room not in taken][0]
    greatest = max(list(rooms.values()))
    last = [variable for variable in rooms if rooms[variable] == greatest][0]
    return Coloured(tuple([rooms[variable] for variable in range(single.many)]), single.definition(last))


def in_order(single):
    """The list of all variables, each behind those whose definitions are on all roads to its own one."""
    check_single(single)
    places = [(single.definition(variable), variable) for variable in range(single.many)]
    places = sorted([(len(heads(single, point[0])), point, variable) for point, variable in places])
    return [place[2] for place in places]


def all_held(program):
    """A dict from all points to the ascending tuples of the variables that are held there."""
    sets = live_sets(program)
    return {point: tuple(sorted(set(list(sets[point]) + born_at(program, point)))) for point in sets}


def born_at(program, point):
    """The list of the variables that are defined directly ahead of a point, by being handed in, too."""
    born = defined_ahead(program.blocks, point)
    return born + handed_in(program) if point == (0, 0) else born


def handed_in(program):
    """The list of the variables that are handed in."""
    return list(program.handed) if isinstance(program, Single) else list(range(program.handed))


def pairs_among(variables):
    """The list of all pairs of some variables."""
    return [(one, other) for at, one in enumerate(variables) for other in variables[at + 1:]]


def do_fit(single, rooms):
    """Whether something is rooms that fit a single program."""
    if not are_integers(rooms, 0, single.many) or len(rooms) != single.many:
        return False
    return all([rooms[one] != rooms[other] for one, other in clashes(single)])
