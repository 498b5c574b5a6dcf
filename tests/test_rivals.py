"""Point [14] and the interface, what rivals are."""

import itertools

from registerrooms.errors import BadRivals, BadVariable, Unlike
from registerrooms.rivals import Rivals
from tests.samples import RoomTest

NO_NUMBERS = (0, 9, -1, True, False, None, "3", (3,), [3], 100)
NO_PAIRS = (
    None, 0, "01", [], [(0, 1)], {(0, 1)}, {}, (0, 1), ("01",), ([0, 1],), ((0,),), ((),), ((0, 1, 2),), ((0, 0),),
    ((1, 0),), ((0, 3),), ((3, 4),), ((-1, 0),), ((False, 1),), ((0, True),), ((0, "1"),), ((None, 1),), (None,),
    ((0, 1), (0, 1)), ((0, 2), (0, 1)), ((1, 2), (0, 1)), ((0, 1), None), ((0, 1), (2, 2)), ((0, 1), (2, 1)),
)
NO_MEMBERS = (
    None, 0, "01", "", [0, 1], [], (), (0,), (0, 1, 2), (0, 0), (1, 1), (0, 5), (-1, 0), (False, 1), (0, True), ("0", 1),
    (None, 1), ((0, 1),), {0: 1}, {0, 1}, True, Rivals(2, ((0, 1),)),
)


def all_pairs(many):
    """All ascending pairs of variables."""
    return tuple(itertools.combinations(range(many), 2))


class RivalsTest(RoomTest):
    def test_attributes(self):
        for many in range(1, 9):
            self.assertEqual((Rivals(many).many, Rivals(many).pairs, len(Rivals(many))), (many, (), many))
            full = Rivals(many, all_pairs(many))
            self.assertEqual((full.many, full.pairs, len(full)), (many, all_pairs(many), many))
        self.assertEqual(Rivals(3, pairs=((0, 2),)).pairs, ((0, 2),))

    def test_no_number(self):
        for many in NO_NUMBERS:
            for pairs in ((), ((0, 1),), None, [], ((1, 0),)):
                self.assertEqual(self.refused(BadRivals, Rivals, many, pairs).part, "many")
            self.assertEqual(self.refused(BadRivals, Rivals, many).part, "many")

    def test_no_pairs(self):
        for pairs in NO_PAIRS:
            self.assertEqual(self.refused(BadRivals, Rivals, 3, pairs).part, "pairs")
        self.assertEqual(self.refused(BadRivals, Rivals, 1, ((0, 1),)).part, "pairs")
        self.assertEqual(self.refused(BadRivals, Rivals, 8, ((0, 8),)).part, "pairs")
        self.assertEqual(Rivals(8, ((0, 7), (6, 7))).pairs, ((0, 7), (6, 7)))

    def test_circle(self):
        self.assertEqual(Rivals.circle(3).pairs, ((0, 1), (0, 2), (1, 2)))
        self.assertEqual(Rivals.circle(4).pairs, ((0, 1), (0, 3), (1, 2), (2, 3)))
        for many in range(3, 9):
            circle = Rivals.circle(many)
            self.assertIs(type(circle), Rivals)
            self.assertEqual(circle.many, many)
            for one, other in all_pairs(many):
                self.assertIs((one, other) in circle, other - one in (1, many - 1))
        for many in (*NO_NUMBERS, 1, 2):
            self.assertEqual(self.refused(BadRivals, Rivals.circle, many).part, "many")

    def test_in(self):
        some = Rivals(5, ((0, 1), (0, 4), (2, 3)))
        for one in range(5):
            for other in range(5):
                goal = (min(one, other), max(one, other)) in some.pairs
                self.assertIs((one, other) in some, goal)
                self.assertIs((one, other) not in some, not goal)
        for thing in NO_MEMBERS:
            self.assertIs(thing in some, False, thing)
            self.assertIs(thing in Rivals(1), False, thing)

    def test_index(self):
        some = Rivals(5, ((0, 1), (0, 4), (1, 3), (1, 4)))
        self.assertEqual([some[one] for one in range(5)], [[1, 4], [0, 3, 4], [], [1], [0, 1]])
        self.assertEqual([Rivals(2)[one] for one in range(2)], [[], []])
        for one in (5, -1, True, False, None, "0", (0,), (0, 1), slice(0, 2)):
            self.refused(BadVariable, lambda: some[one])
        self.assertIsNot(some[0], some[0])
        some[0].clear()
        self.assertEqual(some[0], [1, 4])

    def test_not_iterated_over(self):
        self.assertRaises(TypeError, iter, Rivals(3))
        self.assertRaises(TypeError, list, Rivals.circle(3))

    def test_signs(self):
        for many in (1, 2, 3, 4):
            pairs = all_pairs(many)
            sets = [some for length in range(len(pairs) + 1) for some in itertools.combinations(pairs, length)]
            for some in sets:
                one = Rivals(many, some)
                self.assertEqual((~one).pairs, tuple(pair for pair in pairs if pair not in some))
                self.assertEqual(~~one, one)
                self.assertIs(type(~one), Rivals)
                for more in sets[::3]:
                    other = Rivals(many, more)
                    self.assertEqual((one | other).pairs, tuple(sorted({*some, *more})))
                    self.assertEqual((one - other).pairs, tuple(pair for pair in some if pair not in more))
                    self.assertEqual((one | other, one - other), (other | one, one - (one - (one - other))))
                self.assertEqual((one.many, one.pairs), (many, some))
        self.assertEqual((~Rivals.circle(8)).many, 8)
        self.assertEqual(len(Rivals.circle(5) | ~Rivals.circle(5)), 5)
        self.assertEqual(Rivals.circle(5) | ~Rivals.circle(5), Rivals(5, all_pairs(5)))
        self.assertEqual(Rivals(8) - Rivals(8, all_pairs(8)), Rivals(8))

    def test_unlike(self):
        for one, other in ((Rivals(2), Rivals(3)), (Rivals.circle(5), Rivals.circle(4)), (Rivals(1), Rivals(8))):
            for first, second in ((one, other), (other, one)):
                self.refused(Unlike, lambda: first | second)
                self.refused(Unlike, lambda: first - second)

    def test_equal(self):
        self.all_different(Rivals(3), Rivals(4), Rivals(3, ((0, 1),)), Rivals(3, ((0, 2),)), Rivals.circle(3))
        self.assertEqual(Rivals.circle(3), Rivals(3, all_pairs(3)))
        self.assertNotEqual(Rivals(1), 1)
        self.assertNotEqual(Rivals(1), None)
        self.assertEqual(Rivals(2, ((0, 1),)), ~Rivals(2))
