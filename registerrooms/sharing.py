"""Which pairs of variables share rooms, so that they are worth the most."""

from registerrooms.errors import BadWorths
from registerrooms.rivals import are_pairs, check_rivals, is_pair
from registerrooms.rooms import MOST_LIMIT, are_rooms, cases_of, is_refused, settle
from registerrooms.shapes import check_limit, is_integer

MOST_PAIRED = 6
MOST_WORTH = 9


class Shared:
    """A lot, rooms in which it is together, and trees that refuse all lots that are worth more."""

    def __init__(self, lot, rooms, against):
        self.lot = lot
        self.rooms = rooms
        self.against = {more: against[more] for more in against}

    def __eq__(self, other):
        return (isinstance(other, Shared) and self.lot == other.lot and self.rooms == other.rooms
                and self.against == other.against)

    def shows(self, rivals, worths, limit):
        """Whether the lot is together in the rooms, and no lot that is worth more can be."""
        check_sharing(rivals, worths, limit)
        if not is_lot(rivals, worths, self.lot) or not are_rooms(rivals, self.rooms, limit):
            return False
        if not all([self.rooms[one] == self.rooms[other] for one, other in self.lot]):
            return False
        if not all([is_lot(rivals, worths, more) for more in self.against]):
            return False
        if sorted(list(self.against)) != sorted(worth_more(worths, self.lot)):
            return False
        return all([is_refused(rivals, limit, more, self.against[more]) for more in self.against])


class NoRoom:
    """A tree that refuses a number of rooms whatever is shared."""

    def __init__(self, tree):
        self.tree = tree

    def __eq__(self, other):
        return isinstance(other, NoRoom) and self.tree == other.tree

    def shows(self, rivals, worths, limit):
        """Whether the tree refuses the limit."""
        check_sharing(rivals, worths, limit)
        return is_refused(rivals, limit, (), self.tree)


def share(rivals, worths, limit):
    """A Shared or a NoRoom of rivals, the worths of some pairs, and a number of rooms."""
    check_sharing(rivals, worths, limit)
    trees = {}
    for lot in all_lots(worths):
        rooms, tree = settle(cases_of(rivals, lot), limit)
        if rooms is not None:
            return Shared(lot, rooms, {more: trees[more] for more in worth_more(worths, lot)})
        trees[lot] = tree
    return NoRoom(trees[()])


def greatest_worth(rivals, worths, limit):
    """What the lot of a Shared is worth, None if there is none."""
    found = share(rivals, worths, limit)
    return worth_of(worths, found.lot) if isinstance(found, Shared) else None


def check_sharing(rivals, worths, limit):
    """Refuse what are no rivals, no worths of pairs of them, or no number of rooms."""
    check_rivals(rivals)
    if not are_worths(rivals, worths):
        raise BadWorths("these are no worths of pairs of variables")
    check_limit(limit, 0, MOST_LIMIT)


def are_worths(rivals, worths):
    """Whether something is a dict from some ascending pairs of variables to their worths."""
    if not isinstance(worths, dict) or not is_integer(len(worths), 1, MOST_PAIRED + 1):
        return False
    return all([is_pair(rivals.many, pair) and is_integer(worths[pair], 1, MOST_WORTH + 1) for pair in worths])


def is_lot(rivals, worths, lot):
    """Whether something is an ascending tuple of pairs that have worths."""
    return are_pairs(rivals.many, lot) and all([pair in worths for pair in lot])


def worth_of(worths, lot):
    """What a lot is worth."""
    return sum([worths[pair] for pair in lot])


def all_lots(worths):
    """The list of all lots: those that are worth more first, then the shorter ones, then as tuples."""
    lots = [()]
    for pair in sorted(list(worths)):
        lots = lots + [lot + (pair,) for lot in lots]
    places = sorted([(0 - worth_of(worths, lot), len(lot), lot) for lot in lots])
    return [place[2] for place in places]


def worth_more(worths, lot):
    """The list of all lots that are worth more than one, in their order."""
    return [more for more in all_lots(worths) if worth_of(worths, more) > worth_of(worths, lot)]
