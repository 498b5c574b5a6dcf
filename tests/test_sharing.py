"""Point [17], which pairs of variables share rooms."""

import itertools
import random

from registerrooms.errors import BadLimit, BadRivals, BadWorths
from registerrooms.rivals import Rivals
from registerrooms.rooms import refused
from registerrooms.sharing import NoRoom, Shared, greatest_worth, share
from tests.samples import RoomTest
from tests.test_leaving import NO_RIVALS, all_rivals, full, some_rivals
from tests.test_rooms import NO_LIMITS, NO_TREES, has_rooms, is_refusing

THREE, WORTHS = Rivals(3, ((0, 1),)), {(0, 2): 3, (1, 2): 2}
# A path: what is together by way of others cannot be rivals.
PATH = Rivals(4, ((0, 2), (1, 3)))
CHAIN = {(0, 1): 4, (1, 2): 4, (2, 3): 1, (0, 2): 9}
NO_WORTHS = (
    None, 3, True, "01", (), [], [((0, 1), 3)], {(0, 1)}, ((0, 1),), {}, {(0, 1): 0}, {(0, 1): 10}, {(0, 1): -1},
    {(0, 1): True}, {(0, 1): None}, {(0, 1): "3"}, {(0, 1): (3,)}, {(1, 0): 3}, {(1, 1): 3}, {(0, 4): 3}, {(4, 5): 3},
    {(-1, 0): 3}, {(0, True): 3}, {(False, 1): 3}, {(0,): 3}, {(0, 1, 2): 3}, {(): 3}, {0: 3}, {None: 3}, {"01": 3},
    {(0, None): 3}, {("0", "1"): 3}, {((0, 1),): 3}, {(0, 1): 3, (2, 1): 3}, {(0, 1): 3, (1, 2): 0},
    {(0, 1): 3, (1, 2): 3, 5: 3})
SEVEN = {(0, 1): 1, (0, 2): 1, (0, 3): 1, (0, 4): 1, (1, 2): 1, (1, 3): 1, (1, 4): 1}


def worth(worths, lot):
    """What a lot is worth."""
    return sum(worths[pair] for pair in lot)


def lots_of(worths):
    """All lots, in the order of the document."""
    pairs = sorted(worths)
    lots = [lot for length in range(len(pairs) + 1) for lot in itertools.combinations(pairs, length)]
    return sorted(lots, key=lambda lot: (-worth(worths, lot), len(lot), lot))


def is_shared(paper, rivals, worths, limit):
    """Whether a Shared is right, by the words of the document."""
    lot, rooms = paper.lot, paper.rooms
    if lot not in lots_of(worths) or len(rooms) != rivals.many or not all(0 <= room < limit for room in rooms):
        return False
    if any(rooms[one] == rooms[other] for one, other in rivals.pairs):
        return False
    if any(rooms[one] != rooms[other] for one, other in lot):
        return False
    if set(paper.against) != {some for some in lots_of(worths) if worth(worths, some) > worth(worths, lot)}:
        return False
    return all(is_refusing(rivals, limit, tree, some) for some, tree in paper.against.items())


def random_worths(rng, many):
    """Worths of some pairs."""
    pairs = list(itertools.combinations(range(many), 2))
    some = rng.sample(pairs, rng.randint(1, min(6, len(pairs))))
    return {pair: rng.choice((1, 1, 2, 2, 3, 5, 9)) for pair in some}


class ShareTest(RoomTest):
    def ask(self, rivals, worths, limit):
        """Ask what is found against trying out all lots and all rooms."""
        found = share(rivals, worths, limit)
        self.assertIs(found.shows(rivals, worths, limit), True)
        lots = lots_of(worths)
        right = [lot for lot in lots if has_rooms(rivals, limit, lot)]
        if not right:
            self.assertIs(type(found), NoRoom)
            self.assertTrue(is_refusing(rivals, limit, found.tree))
            self.assertIsNone(greatest_worth(rivals, worths, limit))
            return
        self.assertIs(type(found), Shared)
        self.assertEqual(worth(worths, found.lot), worth(worths, right[0]))
        self.assertEqual(greatest_worth(rivals, worths, limit), worth(worths, right[0]))
        self.assertEqual(found.lot, right[0])
        more = [lot for lot in lots if worth(worths, lot) > worth(worths, found.lot)]
        self.assertEqual(list(found.against), more)
        self.assertTrue(is_shared(found, rivals, worths, limit))
        self.assertEqual((type(found.lot), type(found.rooms), type(found.against)), (tuple, tuple, dict))

    def test_examples(self):
        found = share(THREE, WORTHS, 2)
        self.assertEqual(
            [found.lot, list(found.against), found.shows(THREE, WORTHS, 2), greatest_worth(THREE, WORTHS, 1),
             NoRoom(("crowd", (0, 1))).shows(THREE, WORTHS, 1),
             Shared(((0, 2),), (0, 1, 0), {}).shows(THREE, WORTHS, 2)],
            [((0, 2),), [((0, 2), (1, 2))], True, None, True, False])

    def test_generated(self):
        rng = random.Random(19)
        for many in (2, 3, 4):
            for rivals in all_rivals(many):
                self.ask(rivals, random_worths(rng, many), rng.randint(1, many))
        for rivals in some_rivals(20, 5, 60):
            self.ask(rivals, random_worths(rng, 5), rng.randint(1, 5))
        for rivals in some_rivals(21, 8, 6):
            self.ask(rivals, random_worths(rng, 8), rng.randint(2, 8))

    def test_limits(self):
        for rivals in (THREE, full(4), Rivals.circle(5), PATH):
            worths = {(0, 1): 1, (1, 2): 3, (0, 2): 3}
            for limit in range(9):
                self.ask(rivals, worths, limit)
                self.assertIs(type(share(rivals, worths, limit)) is NoRoom, refused(rivals, limit) is not None)
        self.assertIsNone(greatest_worth(Rivals(2), {(0, 1): 9}, 0))
        self.assertEqual(greatest_worth(Rivals(2), {(0, 1): 9}, 1), 9)

    def test_pairs_of_rivals(self):
        worths = {pair: 9 for pair in full(4).pairs}
        found = share(full(4), worths, 8)
        self.assertEqual((found.lot, len(found.against), greatest_worth(full(4), worths, 8)), ((), 63, 0))
        self.ask(full(4), worths, 8)
        self.assertEqual(share(THREE, {(0, 1): 9, (1, 2): 1}, 2).lot, ((1, 2),))

    def test_together_by_way_of_others(self):
        self.assertEqual(share(PATH, CHAIN, 2).lot, ((0, 1), (2, 3)))
        self.assertEqual(share(PATH, {(0, 1): 4, (1, 2): 4}, 3).lot, ((0, 1),))
        self.assertEqual(share(Rivals(4, ((0, 3),)), {(0, 1): 1, (1, 2): 1, (2, 3): 1}, 4).lot, ((0, 1), (1, 2)))
        self.assertEqual(share(Rivals(4), {(0, 1): 1, (1, 2): 1, (0, 2): 1}, 4).lot, ((0, 1), (0, 2), (1, 2)))
        for limit in range(2, 5):
            self.ask(PATH, CHAIN, limit)

    def test_order(self):
        # As much worth: the shorter one goes first, and then the lesser tuple.
        two = Rivals(4, ((0, 1), (2, 3)))
        self.assertEqual(share(two, {(0, 2): 2, (0, 3): 1, (1, 2): 1}, 2).lot, ((0, 2),))
        self.assertEqual(share(two, {(0, 2): 2, (0, 3): 1, (1, 3): 1}, 2).lot, ((0, 2), (1, 3)))
        self.assertEqual(share(two, {(1, 2): 2, (0, 2): 2}, 2).lot, ((0, 2),))
        self.assertEqual(share(two, {(0, 3): 1, (1, 2): 1, (0, 2): 2}, 2).lot, ((0, 2),))
        self.assertEqual(share(Rivals(3, ((0, 2), (1, 2))), {(0, 1): 4, (0, 2): 5, (1, 2): 4}, 3).lot, ((0, 1),))

    def test_dicts_in_another_order(self):
        turned = {pair: CHAIN[pair] for pair in sorted(CHAIN, reverse=True)}
        self.assertEqual(list(share(PATH, turned, 2).against), list(share(PATH, CHAIN, 2).against))
        self.assertEqual(share(PATH, turned, 2), share(PATH, CHAIN, 2))
        found = share(PATH, CHAIN, 2)
        found.against = dict(reversed(found.against.items()))
        self.assertIs(found.shows(PATH, turned, 2), True)
        self.assertEqual(found, share(PATH, CHAIN, 2))

    def test_new_each_time(self):
        worths = dict(CHAIN)
        one, other = share(PATH, worths, 2), share(PATH, worths, 2)
        self.assertEqual(one, other)
        self.assertIsNot(one, other)
        one.against.clear()
        self.assertTrue(other.against)
        self.assertIsNot(share(full(2), {(0, 1): 1}, 1), share(full(2), {(0, 1): 1}, 1))
        self.assertEqual((worths, list(worths), PATH), (CHAIN, list(CHAIN), Rivals(4, ((0, 2), (1, 3)))))

    def test_errors(self):
        paper, none = share(THREE, WORTHS, 2), NoRoom(("crowd", (0, 1)))
        asks = (share, greatest_worth, paper.shows, none.shows, Shared((), (), {}).shows)
        for ask in asks:
            for rivals in NO_RIVALS:
                for worths, limit in ((WORTHS, 2), (None, 2), (WORTHS, 9), ({}, True)):
                    self.assertIsNone(self.refused(BadRivals, ask, rivals, worths, limit).part)
            for worths in (*NO_WORTHS, SEVEN):
                for limit in (2, 9, True, None):
                    self.refused(BadWorths, ask, PATH, worths, limit)
            self.refused(BadWorths, ask, Rivals(5), SEVEN, 2)
            self.refused(BadWorths, ask, Rivals(1), {(0, 1): 1}, 2)
            for limit in NO_LIMITS:
                self.refused(BadLimit, ask, THREE, WORTHS, limit)
        six = {pair: SEVEN[pair] for pair in list(SEVEN)[:6]}
        self.ask(Rivals(5), six, 2)
        self.ask(Rivals(2), {(0, 1): 9}, 2)


class PapersTest(RoomTest):
    def ask(self, paper, goal, rivals=PATH, worths=None, limit=2):
        """Ask whether a paper shows, and whether it ought to."""
        self.assertIs(paper.shows(rivals, CHAIN if worths is None else worths, limit), goal, vars(paper))

    def test_lots(self):
        found = share(PATH, CHAIN, 2)
        self.ask(found, True)
        for lot in (
                (), ((0, 1),), ((2, 3),), ((0, 1), (1, 2)), ((0, 2),), ((2, 3), (0, 1)), ((0, 1), (0, 1), (2, 3)),
                ((0, 1), (3, 2)), ((0, 1), (2, 2)), ((0, 1), (0, 3)), ((False, 1), (2, 3)), ((0, True), (2, 3)),
                ((0, 1), (2, 4)), ((0, 1, 2),)):
            self.ask(Shared(lot, found.rooms, found.against), False)

    def test_pairs_without_a_worth(self):
        worths = {(0, 1): 4, (2, 3): 1}
        found = share(PATH, worths, 2)
        self.assertEqual((found.lot, found.rooms, found.against), (((0, 1), (2, 3)), (0, 0, 1, 1), {}))
        self.ask(Shared(((0, 1),), (0, 0, 1, 1), {}), True, worths={(0, 1): 4})
        self.ask(Shared(((0, 1), (2, 3)), (0, 0, 1, 1), {}), False, worths={(0, 1): 4})
        self.ask(Shared(((2, 3),), (0, 0, 1, 1), {}), False, worths={(0, 1): 4})
        self.ask(Shared((), (0, 0, 1, 1), {((2, 3),): ("clash", 0, 0)}), False, worths={(0, 1): 4})

    def test_each_lot_with_what_is_worth_more(self):
        for limit in (2, 3, 4):
            trees = {lot: tree for lot, tree in share(PATH, CHAIN, limit).against.items()}
            for lot in lots_of(CHAIN):
                for rooms in itertools.product(range(limit), repeat=4):
                    against = {some: trees.get(some, ("crowd", (0,))) for some in lots_of(CHAIN)
                               if worth(CHAIN, some) > worth(CHAIN, lot)}
                    paper = Shared(lot, rooms, against)
                    self.ask(paper, is_shared(paper, PATH, CHAIN, limit), limit=limit)

    def test_any_lot_that_is_worth_as_much(self):
        two, worths = Rivals(4, ((0, 1), (2, 3))), {(0, 2): 2, (0, 3): 2, (1, 2): 2, (1, 3): 2}
        against = share(two, worths, 2).against
        self.assertEqual(len(against), 5)
        for lot, rooms in ((((0, 2), (1, 3)), (0, 1, 0, 1)), (((0, 3), (1, 2)), (0, 1, 1, 0)),
                           (((0, 3), (1, 2)), (1, 0, 0, 1))):
            self.ask(Shared(lot, rooms, against), True, two, worths)
        same = dict(against)
        same[((0, 2), (0, 3))] = ("cases", 2, 3, ("clash", 2, 3), ("clash", 2, 3))
        self.assertTrue(is_refusing(two, 2, same[((0, 2), (0, 3))], ((0, 2), (0, 3))))
        self.ask(Shared(((0, 2), (1, 3)), (0, 1, 0, 1), same), False, two, worths)

    def test_rooms(self):
        found = share(PATH, CHAIN, 3)
        for rooms, goal in (
                ((0, 0, 1, 1), True), ((1, 1, 0, 0), True), ((0, 0, 2, 2), True), ((2, 2, 1, 1), True),
                ((0, 0, 3, 3), False), ((0, 0, 0, 0), False), ((0, 0, 1, 2), False), ((0, 1, 1, 0), False),
                ((0, 0, 1), False), ((0, 0, 1, 1, 1), False), ((), False), ((-1, -1, 1, 1), False),
                ((0, 0, True, True), False), ((False, False, 1, 1), False), ((0, 0, None, 1), False),
                ([0, 0, 1, 1], False)):
            self.ask(Shared(found.lot, rooms, found.against), goal, limit=3)
        self.ask(Shared(found.lot, (0, 0, 2, 2), share(PATH, CHAIN, 2).against), False)

    def test_against(self):
        found = share(PATH, CHAIN, 2)
        for lot in found.against:
            less = {some: tree for some, tree in found.against.items() if some != lot}
            self.ask(Shared(found.lot, found.rooms, less), False)
            for tree in (*NO_TREES[:12], ("crowd", (0, 2)), ("clash", 0, 0) if lot == ((0, 1), (1, 2)) else ()):
                changed = is_refusing(PATH, 2, tree, lot)
                self.ask(Shared(found.lot, found.rooms, {**found.against, lot: tree}), changed)
        for more in (
                (), ((0, 1),), found.lot, ((2, 3),), ((0, 1), (0, 3)), ((0, 2), (0, 1)), ((0, 1), (0, 1)), ((1, 0), (0, 2)),
                ((0, 2), (1, 2), (3, 2)), ((0, 1), (0, 2), (0, 3)), ((0, 2), (4, 5)), ((0, 2), (1, 2), (1, 2))):
            self.ask(Shared(found.lot, found.rooms, {**found.against, more: ("clash", 0, 2)}), False)
        # True is no variable, although it is equal to one.
        keys = {some if some != ((0, 1), (0, 2)) else ((False, 1), (0, 2)): tree for some, tree in found.against.items()}
        self.assertEqual(keys, found.against)
        self.ask(Shared(found.lot, found.rooms, keys), False)

    def test_trees_exchanged(self):
        rivals, worths = Rivals(4, ((0, 1), (2, 3))), {(0, 2): 5, (1, 2): 4, (0, 3): 3}
        found = share(rivals, worths, 2)
        self.assertEqual((found.lot, len(found.against)), (((0, 3), (1, 2)), 3))
        one, other = ((0, 2), (1, 2)), ((0, 2), (0, 3))
        self.ask(found, True, rivals, worths)
        trees = dict(found.against)
        trees[one], trees[other] = trees[other], trees[one]
        self.assertFalse(is_refusing(rivals, 2, trees[one], one))
        self.ask(Shared(found.lot, found.rooms, trees), False, rivals, worths)
        # A tree that is right only with the pairs of another lot together.
        self.assertTrue(is_refusing(rivals, 2, ("clash", 2, 3), other))
        self.ask(Shared(found.lot, found.rooms, {**found.against, one: ("clash", 2, 3)}), False, rivals, worths)
        self.ask(Shared(found.lot, found.rooms, {**found.against, other: ("clash", 2, 3)}), True, rivals, worths)
        self.ask(Shared(found.lot, found.rooms, {**found.against, other: ("clash", 0, 2)}), True, rivals, worths)
        self.ask(Shared(found.lot, found.rooms, {**found.against, other: ("clash", 1, 1)}), False, rivals, worths)

    def test_no_room(self):
        for tree, goal in ((("crowd", (0, 1)), True), (("crowd", (1, 0)), True), (("crowd", (0, 2)), False),
                           (("clash", 0, 0), False), (("cases", 0, 2, ("crowd", (2, 1)), ("crowd", (0, 1))), True)):
            self.ask(NoRoom(tree), goal, THREE, WORTHS, 1)
            self.ask(NoRoom(tree), False, THREE, WORTHS, 2)
        for tree in NO_TREES:
            self.ask(NoRoom(tree), False, THREE, WORTHS, 1)
        # The pairs are not together where there is none.
        self.assertTrue(is_refusing(THREE, 1, ("clash", 0, 2), ((0, 2), (1, 2))))
        self.ask(NoRoom(("clash", 0, 2)), False, THREE, WORTHS, 1)
        self.ask(NoRoom(("crowd", (2,))), True, THREE, WORTHS, 0)

    def test_copies_and_current_attributes(self):
        against = {((0, 2), (1, 2)): ("clash", 0, 1)}
        paper = Shared(((0, 2),), (0, 1, 0), against)
        self.ask(paper, True, THREE, WORTHS)
        against.clear()
        self.ask(paper, True, THREE, WORTHS)
        paper.rooms = (0, 1, 1)
        self.ask(paper, False, THREE, WORTHS)
        paper.rooms, paper.against = (0, 1, 0), {}
        self.ask(paper, False, THREE, WORTHS)
        paper = NoRoom(("crowd", (0, 1)))
        paper.tree = ("crowd", (0, 2))
        self.ask(paper, False, THREE, WORTHS, 1)

    def test_equal(self):
        self.all_different(
            Shared((), (0,), {}), Shared(((0, 1),), (0,), {}), Shared((), (1,), {}), Shared((), (0,), {(): ()}),
            NoRoom(()), NoRoom(("crowd", (0,))))
        self.assertEqual(Shared((), (0,), {}), Shared((), (0,), {}))
        self.assertEqual(NoRoom(("crowd", (0,))), NoRoom(("crowd", (0,))))
