"""Point [14], which variables can leave others."""

import itertools
import random

from registerrooms.errors import BadOrder, BadRivals
from registerrooms.leaving import (
    Leaving, Ringed, can_all_leave, count_leavings, last_ones, look_for_leaving,
)
from registerrooms.rivals import Rivals
from tests.samples import NO_PROGRAMS, RoomTest

PATH = Rivals(3, ((0, 1), (1, 2)))
HUB = Rivals(5, ((0, 1), (0, 3), (0, 4), (1, 2), (1, 4), (2, 3), (2, 4), (3, 4)))
TREE = Rivals(8, ((0, 1), (0, 2), (1, 3), (1, 4), (2, 5), (5, 6), (5, 7)))
NO_RIVALS = (*NO_PROGRAMS, ((0, 1),), 3)
NO_ORDERS = (
    None, 3, "012", [0, 1, 2], {}, {0, 1, 2}, (), (0, 1), (0, 1, 2, 0), (0, 1, 1), (0, 1, 3), (-1, 0, 1), (0, True, 2),
    (False, 1, 2), (0, 1, "2"), (0, 1, None), ((0, 1, 2),), range(3), (2, 2, 2),
)


def full(many):
    """Rivals of which all are rivals of one another."""
    return ~Rivals(many)


def all_rivals(many):
    """All rivals of so many variables."""
    pairs = list(itertools.combinations(range(many), 2))
    return [Rivals(many, some) for length in range(len(pairs) + 1) for some in itertools.combinations(pairs, length)]


def some_rivals(seed, many, times):
    """So many rivals, the same for the same seed."""
    rng = random.Random(seed)
    pairs = list(itertools.combinations(range(many), 2))
    return [Rivals(many, tuple(sorted(rng.sample(pairs, rng.randint(0, len(pairs)))))) for _ in range(times)]


def is_leaving(rivals, order):
    """Whether each variable of an order can leave those behind it, by the words of the document."""
    if sorted(order) != list(range(rivals.many)):
        return False
    known = set(rivals.pairs) | {(other, one) for one, other in rivals.pairs}
    for at, one in enumerate(order):
        near = [other for other in order[at + 1:] if (one, other) in known]
        if any(pair not in known for pair in itertools.permutations(near, 2)):
            return False
    return True


def is_ring(rivals, ring):
    """Whether this is a ring of rivals without other pairs, by the words of the document."""
    if len(ring) < 4 or len(set(ring)) != len(ring) or not set(ring) <= set(range(rivals.many)):
        return False
    beside = {frozenset(pair) for pair in zip(ring, ring[1:] + ring[:1])}
    return all((frozenset(pair) in map(frozenset, rivals.pairs)) == (frozenset(pair) in beside)
               for pair in itertools.combinations(ring, 2))


class LeavingTest(RoomTest):
    def ask(self, rivals):
        """Ask what is found against the words of the document."""
        found = look_for_leaving(rivals)
        self.assertIs(found.shows(rivals), True)
        self.assertIs(can_all_leave(rivals), type(found) is Leaving)
        if type(found) is Leaving:
            self.assertTrue(is_leaving(rivals, found.order))
            self.assertIs(type(found.order), tuple)
        else:
            self.assertIs(type(found), Ringed)
            self.assertTrue(is_ring(rivals, found.ring))
            self.assertIs(type(found.ring), tuple)
        return found

    def test_all_orders(self):
        several = [rivals for many in (1, 2, 3, 4) for rivals in all_rivals(many)]
        for rivals in several + some_rivals(3, 5, 60) + some_rivals(4, 6, 25):
            number = sum(is_leaving(rivals, order) for order in itertools.permutations(range(rivals.many)))
            self.assertEqual(count_leavings(rivals), number, rivals.pairs)
            self.assertIs(can_all_leave(rivals), number > 0)
            self.ask(rivals)

    def test_more(self):
        for rivals in some_rivals(5, 7, 60) + some_rivals(6, 8, 80) + [TREE, HUB]:
            found = self.ask(rivals)
            self.assertIs(count_leavings(rivals) > 0, type(found) is Leaving)

    def test_ordinary(self):
        self.assertEqual(count_leavings(PATH), 4)
        for many, number in ((1, 1), (2, 2), (3, 6), (7, 5040), (8, 40320)):
            self.assertEqual((count_leavings(Rivals(many)), count_leavings(full(many))), (number, number))
        for many in range(3, 9):
            circle = Rivals.circle(many)
            self.assertIs(can_all_leave(circle), many == 3)
            self.assertEqual(count_leavings(circle), 6 if many == 3 else 0)
            found = self.ask(circle)
            if many > 3:
                self.assertEqual(sorted(found.ring), list(range(many)))
            path = circle - Rivals(many, ((0, many - 1),))
            self.assertTrue(can_all_leave(path))
            self.assertEqual(count_leavings(path), 2 ** (many - 1))
        self.assertEqual(sorted(self.ask(HUB).ring), [0, 1, 2, 3])
        self.assertEqual(count_leavings(HUB), 0)
        self.assertTrue(can_all_leave(TREE))
        self.assertFalse(can_all_leave(TREE | Rivals(8, ((3, 6),))))
        self.assertTrue(can_all_leave(TREE | Rivals(8, ((1, 2),))))

    def test_last_ones(self):
        self.assertEqual(last_ones(PATH, (0, 1, 2)), [1, 1, 0])
        self.assertEqual(last_ones(PATH, (1, 0, 2)), [2, 0, 0])
        for rivals in (PATH, HUB, *some_rivals(7, 5, 10)):
            for order in itertools.permutations(range(rivals.many)):
                goal = [sum(other in rivals[one] for other in order[at + 1:]) for at, one in enumerate(order)]
                self.assertEqual(last_ones(rivals, order), goal)
        self.assertEqual(last_ones(Rivals(1), (0,)), [0])
        self.assertIsNot(last_ones(PATH, (0, 1, 2)), last_ones(PATH, (0, 1, 2)))

    def test_new_each_time(self):
        for rivals in (PATH, HUB):
            before = (rivals.many, rivals.pairs)
            self.assertIsNot(look_for_leaving(rivals), look_for_leaving(rivals))
            self.assertEqual(look_for_leaving(rivals), look_for_leaving(rivals))
            self.assertEqual((rivals.many, rivals.pairs), before)

    def test_no_rivals(self):
        for rivals in NO_RIVALS:
            for ask in (look_for_leaving, can_all_leave, count_leavings, Leaving(()).shows, Ringed(()).shows):
                self.assertIsNone(self.refused(BadRivals, ask, rivals).part)
            for order in ((), (0,), None, [0]):
                self.assertIsNone(self.refused(BadRivals, last_ones, rivals, order).part)

    def test_no_orders(self):
        for order in NO_ORDERS:
            self.refused(BadOrder, last_ones, PATH, order)


class PapersTest(RoomTest):
    def test_orders(self):
        for rivals in (PATH, full(3), Rivals(3), *some_rivals(8, 4, 12)):
            for order in itertools.product(range(rivals.many), repeat=rivals.many):
                self.assertIs(Leaving(order).shows(rivals), is_leaving(rivals, order), (rivals.pairs, order))
        for order in ((), (0,), (0, 1), (0, 1, 2, 0), (0, 1, 3), (2, 1, 0, -1), (0, True, 2), (False, 1, 2)):
            self.assertIs(Leaving(order).shows(PATH), False, order)
        for order in itertools.permutations(range(4)):
            self.assertIs(Leaving(order).shows(Rivals.circle(4)), False)
        self.assertTrue(Leaving((0,)).shows(Rivals(1)))

    def test_rings(self):
        for rivals in (Rivals.circle(4), HUB, full(5), Rivals.circle(5), *some_rivals(9, 5, 8)):
            for length in range(6):
                for ring in itertools.product(range(rivals.many), repeat=length):
                    self.assertIs(Ringed(ring).shows(rivals), is_ring(rivals, ring), (rivals.pairs, ring))
        for many in range(4, 9):
            ring = tuple(range(many))
            for turned in (ring, ring[::-1], ring[2:] + ring[:2]):
                self.assertIs(Ringed(turned).shows(Rivals.circle(many)), True)
            self.assertIs(Ringed(ring).shows(Rivals.circle(many) | Rivals(many, ((0, 2),))), False)
            self.assertIs(Ringed(ring).shows(Rivals.circle(many) - Rivals(many, ((0, 1),))), False)
            self.assertIs(Ringed(ring[:-1]).shows(Rivals.circle(many)), False)
            self.assertIs(Ringed(ring + ring).shows(Rivals.circle(many)), False)
        self.assertIs(Ringed((0, 1, 2)).shows(Rivals.circle(3)), False)
        for ring in ((0, True, 2, 3), (False, 1, 2, 3), (0, 1, 2, 4), (0, 1, 2, -1), (0, 1, 2, 3, 0), (0, 1, 2, 3, 4)):
            self.assertIs(Ringed(ring).shows(Rivals.circle(4)), False, ring)

    def test_current_attributes(self):
        paper = Leaving((0, 1, 2))
        self.assertTrue(paper.shows(PATH))
        paper.order = (1, 0, 2)
        self.assertFalse(paper.shows(PATH))
        paper = Ringed((0, 1, 2, 3))
        self.assertTrue(paper.shows(HUB))
        paper.ring = (0, 1, 2, 4)
        self.assertFalse(paper.shows(HUB))

    def test_equal(self):
        self.all_different(Leaving(()), Ringed(()), Leaving((0, 1)), Leaving((1, 0)), Ringed((0, 1)), Ringed((1, 0)))
        self.assertEqual(Leaving((0, 1)), Leaving((0, 1)))
        self.assertEqual(Ringed((0, 1)), Ringed((0, 1)))
