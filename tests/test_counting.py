"""Point [16], in how many ways rivals have rooms."""

import itertools

from registerrooms.counting import partings, polynomial, ways
from registerrooms.errors import BadLimit, BadRivals
from registerrooms.rivals import Rivals
from tests.samples import RoomTest
from tests.test_leaving import NO_RIVALS, all_rivals, full, some_rivals
from tests.test_rooms import special

FIVE = Rivals.circle(5)
NO_LIMITS = (-1, 21, True, False, None, "2", (2,), [2], 1000)


def tried(rivals, limit):
    """In how many ways rooms are given: all are tried out."""
    return sum(all(rooms[one] != rooms[other] for one, other in rivals.pairs)
               for rooms in itertools.product(range(limit), repeat=rivals.many))


def all_partings(variables):
    """All sets of sets of some variables, each in one."""
    if not variables:
        return [[]]
    first, *rest = variables
    found = []
    for parting in all_partings(rest):
        found.append([[first], *parting])
        found += [parting[:at] + [[first, *parting[at]]] + parting[at + 1:] for at in range(len(parting))]
    return found


def counted(rivals):
    """The numbers of partings, by the words of the document."""
    counts = [0] * (rivals.many + 1)
    for parting in all_partings(list(range(rivals.many))):
        if not any(one in some and other in some for some in parting for one, other in rivals.pairs):
            counts[len(parting)] += 1
    return counts


class CountingTest(RoomTest):
    def ask(self, rivals):
        """Ask what is counted against counting by the words of the document."""
        self.assertEqual(partings(rivals), counted(rivals), rivals.pairs)
        numbers = polynomial(rivals)
        self.assertEqual((type(numbers), len(numbers), len(partings(rivals))), (list, *(rivals.many + 1,) * 2))
        self.assertTrue(all(type(number) is int for number in numbers + partings(rivals)))
        for limit in range(21):
            value = sum(number * limit ** power for power, number in enumerate(numbers))
            self.assertEqual(ways(rivals, limit), value, (rivals.pairs, limit))

    def test_examples(self):
        self.assertEqual(
            [partings(FIVE), polynomial(FIVE), [ways(FIVE, limit) for limit in (2, 3, 4)], polynomial(Rivals(2)),
             partings(Rivals(3))],
            [[0, 0, 0, 5, 5, 1], [0, 4, -10, 10, -5, 1], [0, 30, 240], [0, 0, 1], [0, 1, 3, 1]])

    def test_all(self):
        for many in (1, 2, 3, 4):
            for rivals in all_rivals(many):
                self.ask(rivals)
                for limit in range(6):
                    self.assertEqual(ways(rivals, limit), tried(rivals, limit))

    def test_special(self):
        for rivals in special() + some_rivals(17, 6, 6) + some_rivals(18, 7, 4):
            self.ask(rivals)
            for limit in range(4 if rivals.many < 8 else 3):
                self.assertEqual(ways(rivals, limit), tried(rivals, limit))

    def test_greatest_limits(self):
        for rivals in all_rivals(2) + all_rivals(3):
            for limit in range(21):
                self.assertEqual(ways(rivals, limit), tried(rivals, limit))
        self.assertEqual([ways(Rivals(8), limit) for limit in (0, 1, 2, 20)], [0, 1, 256, 20 ** 8])
        self.assertEqual([ways(full(8), limit) for limit in (0, 7, 8, 9, 20)], [0, 0, 40320, 362880, 5079110400])
        for many in range(3, 9):
            for limit in range(21):
                goal = (limit - 1) ** many + (-1) ** many * (limit - 1)
                self.assertEqual(ways(Rivals.circle(many), limit), goal)

    def test_no_rooms(self):
        for rivals in special():
            self.assertEqual((ways(rivals, 0), partings(rivals)[0], polynomial(rivals)[0]), (0, 0, 0))
        self.assertEqual((partings(Rivals(1)), polynomial(Rivals(1))), ([0, 1], [0, 1]))

    def test_new_each_time(self):
        for ask in (partings, polynomial):
            goal = ask(FIVE)
            self.assertIsNot(ask(FIVE), ask(FIVE))
            ask(FIVE).clear()
            self.assertEqual(ask(FIVE), goal)
        self.assertEqual(FIVE, Rivals.circle(5))

    def test_errors(self):
        for rivals in NO_RIVALS:
            for ask in (partings, polynomial):
                self.assertIsNone(self.refused(BadRivals, ask, rivals).part)
            for limit in (2, *NO_LIMITS):
                self.assertIsNone(self.refused(BadRivals, ways, rivals, limit).part)
        for limit in NO_LIMITS:
            self.refused(BadLimit, ways, FIVE, limit)
