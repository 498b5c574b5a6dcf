"""The fewest rooms for rivals, and trees of cases that show that fewer are not enough."""

from registerrooms.rivals import check_rivals
from registerrooms.shapes import are_integers, check_limit

MOST_LIMIT = 8


class Roomed:
    """Rooms for rivals, and a tree of cases that refuses one room less."""

    def __init__(self, rooms, tree):
        self.rooms = rooms
        self.tree = tree

    def __eq__(self, other):
        return isinstance(other, Roomed) and self.rooms == other.rooms and self.tree == other.tree

    def shows(self, rivals):
        """Whether the rooms are right, and the tree shows that there are none with fewer."""
        check_rivals(rivals)
        if not are_rooms(rivals, self.rooms, rivals.many):
            return False
        greatest = max(self.rooms)
        return len(set(self.rooms)) == greatest + 1 and is_refused(rivals, greatest, (), self.tree)


class Cases:
    """Variables of which some are together in one room, and some are apart.

    homes has, for each variable, the least one that is in its room; links are the pairs of variables that are apart.
    """

    def __init__(self, homes, links):
        self.homes = homes
        self.links = links
        self.bars = {}
        for one, other in links:
            self.bars[(homes[one], homes[other])] = True
            self.bars[(homes[other], homes[one])] = True

    def are_apart(self, one, other):
        """Whether the rooms of two variables are apart."""
        return (self.homes[one], self.homes[other]) in self.bars

    def put_together(self, one, other):
        """The cases in which two variables are together, too."""
        here, there = sorted([self.homes[one], self.homes[other]])
        return Cases(tuple([here if home == there else home for home in self.homes]), self.links)

    def put_apart(self, one, other):
        """The cases in which two variables are apart, too."""
        return Cases(self.homes, self.links + ((one, other),))

    def is_crowd(self, variables):
        """Whether some variables are all in different rooms, each two of which are apart."""
        rooms = [self.homes[one] for one in variables]
        pairs = [(one, other) for one in variables for other in variables if one != other]
        return len(set(rooms)) == len(rooms) and all([self.are_apart(one, other) for one, other in pairs])

    def is_clash(self, one, other):
        """Whether two variables are in one room, which is apart from itself."""
        return self.homes[one] == self.homes[other] and self.are_apart(one, other)


def fewest(rivals):
    """A Roomed of rivals."""
    limit = len(greatest_crowd(rivals))
    start = cases_of(rivals, ())
    while settle(start, limit)[0] is None:
        limit += 1
    return Roomed(settle(start, limit)[0], settle(start, limit - 1)[1])


def fewest_rooms(rivals):
    """The least number of different rooms for rivals."""
    return len(set(fewest(rivals).rooms))


def greatest_crowd(rivals):
    """The first of the longest ascending tuples of variables each two of which are rivals."""
    check_rivals(rivals)
    return longest_crowd(cases_of(rivals, ()))


def free_pairs(rivals):
    """The ascending list of all pairs of variables that are not rivals."""
    check_rivals(rivals)
    return list((~rivals).pairs)


def refused(rivals, limit):
    """A tree of cases that refuses a number of rooms, None if it is enough."""
    check_rivals(rivals)
    check_limit(limit, 0, MOST_LIMIT)
    return settle(cases_of(rivals, ()), limit)[1]


def refuses(rivals, limit, tree):
    """Whether a tree of cases refuses a number of rooms."""
    check_rivals(rivals)
    check_limit(limit, 0, MOST_LIMIT)
    return is_refused(rivals, limit, (), tree)


def are_rooms(rivals, rooms, top):
    """Whether something is rooms for rivals, all less than top."""
    if not are_integers(rooms, 0, top) or len(rooms) != rivals.many:
        return False
    return all([rooms[one] != rooms[other] for one, other in rivals.pairs])


def cases_of(rivals, lot):
    """The cases in which the pairs of a lot are together, and rivals apart."""
    cases = Cases(tuple(range(rivals.many)), rivals.pairs)
    for one, other in lot:
        cases = cases.put_together(one, other)
    return cases


def is_refused(rivals, limit, lot, tree):
    """Whether a tree refuses a number of rooms if the pairs of a lot are together at first."""
    waiting = [(cases_of(rivals, lot), tree)]
    while waiting:
        cases, some = waiting.pop()
        if is_kind(some, "cases", 5) and are_integers(some[1:3], 0, rivals.many):
            waiting.append((cases.put_together(some[1], some[2]), some[3]))
            waiting.append((cases.put_apart(some[1], some[2]), some[4]))
        elif not is_leaf(cases, limit, some):
            return False
    return True


def is_kind(tree, word, length):
    """Whether something is a tuple of so many items that begins with a word."""
    return isinstance(tree, tuple) and len(tree) == length and tree[0] == word


def is_leaf(cases, limit, tree):
    """Whether a tree is a crowd or a clash that refuses a number of rooms."""
    many = len(cases.homes)
    if is_kind(tree, "crowd", 2):
        return are_integers(tree[1], 0, many) and len(tree[1]) > limit and cases.is_crowd(tree[1])
    if is_kind(tree, "clash", 3):
        return are_integers(tree[1:], 0, many) and cases.is_clash(tree[1], tree[2])
    return False


def settle(cases, limit):
    """Rooms for some cases, all less than the limit, and None; or None and a tree that refuses the limit."""
    crowd = longest_crowd(cases)
    clashing = [pair for pair in cases.links if cases.is_clash(pair[0], pair[1])]
    if clashing:
        return None, ("clash",) + clashing[0]
    if len(crowd) > limit:
        return None, ("crowd", crowd)
    if len(crowd) == len(set(cases.homes)):
        return tuple([crowd.index(home) for home in cases.homes]), None
    one, other = undecided(cases, crowd)
    rooms, first = settle(cases.put_together(one, other), limit)
    if rooms is not None:
        return rooms, None
    rooms, second = settle(cases.put_apart(one, other), limit)
    if rooms is not None:
        return rooms, None
    return None, ("cases", one, other, first, second)


def longest_crowd(cases):
    """The first of the longest ascending tuples of the least variables of rooms each two of which are apart."""
    homes = sorted(set(cases.homes))
    longest = ()
    crowds = [()]
    while crowds:
        longest = crowds[0]
        crowds = [crowd + (home,) for crowd in crowds for home in homes if can_come(cases, crowd, home)]
    return longest


def can_come(cases, crowd, home):
    """Whether the room of a variable is apart from those of a crowd of lesser ones."""
    return all([one < home and cases.are_apart(one, home) for one in crowd])


def undecided(cases, crowd):
    """A pair of variables of two rooms that are not apart: the first is in a crowd, and the second has few choices.

    No crowd is longer, so that each room outside of it is not apart from one of it at least.
    """
    outside = [home for home in sorted(set(cases.homes)) if home not in crowd]
    choices = [[(one, home) for one in crowd if not cases.are_apart(one, home)] for home in outside]
    return min(choices, key=len)[0]
