"""Whether all variables of rivals can leave, one after the other."""

from registerrooms.errors import BadOrder
from registerrooms.rivals import check_rivals
from registerrooms.shapes import are_integers

LEAST_RING = 4


class Leaving:
    """An order in which each variable can leave those behind it."""

    def __init__(self, order):
        self.order = order

    def __eq__(self, other):
        return isinstance(other, Leaving) and self.order == other.order

    def shows(self, rivals):
        """Whether all variables can leave in this order."""
        check_rivals(rivals)
        if not is_order(rivals, self.order):
            return False
        return all([can_leave(rivals, one, self.order[at:]) for at, one in enumerate(self.order)])


class Ringed:
    """A ring of rivals without other pairs: evidence that not all variables can leave."""

    def __init__(self, ring):
        self.ring = ring

    def __eq__(self, other):
        return isinstance(other, Ringed) and self.ring == other.ring

    def shows(self, rivals):
        """Whether each variable of the ring is a rival of its neighbours there, and of no other one of it."""
        check_rivals(rivals)
        ring = self.ring
        if not are_integers(ring, 0, rivals.many) or len(ring) < LEAST_RING or len(set(ring)) != len(ring):
            return False
        beside = [sorted([ring[at - 1], ring[(at + 1) % len(ring)]]) for at in range(len(ring))]
        return all([rivals_among(rivals, one, ring) == pair for one, pair in zip(ring, beside)])


def look_for_leaving(rivals):
    """A Leaving or a Ringed of rivals."""
    check_rivals(rivals)
    order = []
    left = list(range(rivals.many))
    while can_go(rivals, left):
        order.append(can_go(rivals, left)[0])
        left.remove(order[-1])
    if not left:
        return Leaving(tuple(order))
    return Ringed(ring_in(rivals))


def can_all_leave(rivals):
    """Whether all variables of rivals can leave."""
    return isinstance(look_for_leaving(rivals), Leaving)


def count_leavings(rivals):
    """The number of all orders in which each variable can leave those behind it."""
    check_rivals(rivals)
    return count_orders(rivals, tuple(range(rivals.many)), {(): 1})


def last_ones(rivals, order):
    """The list with, for each variable of an order, how many of its rivals stand behind it."""
    check_rivals(rivals)
    if not is_order(rivals, order):
        raise BadOrder("this is no order of all variables")
    return [len(rivals_among(rivals, one, order[at:])) for at, one in enumerate(order)]


def is_order(rivals, order):
    """Whether something is a tuple of all variables, each once."""
    return are_integers(order, 0, rivals.many) and sorted(order) == list(range(rivals.many))


def rivals_among(rivals, one, others):
    """The ascending list of the rivals of a variable among others."""
    return [other for other in rivals[one] if other in others]


def can_leave(rivals, one, others):
    """Whether a variable can leave others: if all its rivals among these are rivals of one another."""
    near = rivals_among(rivals, one, others)
    return all([(some, other) in rivals for some in near for other in near if some < other])


def can_go(rivals, left):
    """The list of the variables that can leave what is left."""
    return [one for one in left if can_leave(rivals, one, left)]


def count_orders(rivals, left, counts):
    """The number of orders of what is left; those of parts of it are put into counts, each once."""
    if left not in counts:
        parts = [tuple([other for other in left if other != one]) for one in can_go(rivals, left)]
        counts[left] = sum([count_orders(rivals, part, counts) for part in parts])
    return counts[left]


def ring_in(rivals):
    """A ring of rivals of whom not all can leave.

    Each variable of one has two rivals there that are none of one another, and the others of the ring are none of
    its own, so that they are a way around it. A shortest such way has no shortcut, and closes a ring.
    """
    corners = [(one, first, last) for one in range(rivals.many) for first in rivals[one] for last in rivals[one]
               if first < last and (first, last) not in rivals]
    ways = [(one, way_around(rivals, one, first, last)) for one, first, last in corners]
    return [(one,) + way for one, way in ways if way is not None][0]


def way_around(rivals, one, first, last):
    """A shortest way between two rivals of a variable, not over itself or other rivals, None if there is none."""
    ways = {first: (first,)}
    waiting = [first]
    while waiting:
        some = waiting.pop(0)
        for other in rivals[some]:
            if other not in ways and other != one and (other == last or (one, other) not in rivals):
                ways[other] = ways[some] + (other,)
                waiting.append(other)
    return ways.get(last)
