"""Point [10], copies that are put into a row of moves."""

import itertools
import random

from registerrooms.errors import BadMoves
from registerrooms.moves import Fewest, Stuck, count_moves, hold, in_row
from tests.samples import RoomTest

SWAP = {0: 1, 1: 0}
NO_COPIES = (
    None, [], (), 3, "ab", [(0, 1)], {0}, {True: 1}, {1: False}, {0: True}, {3: 0}, {0: 3}, {-1: 0}, {0: -1}, {"0": 1},
    {0: "1"}, {0: None}, {None: 0}, {(0,): 1}, {0: (1,)},
)
NO_FREE = (
    None, [], [2], 2, "2", {2}, {}, (3,), (-1,), (True,), (2, 1), (2, 2), ("2",), (None,), ((2,),), range(2, 3),
)
NO_PLACES = (0, 6, -1, True, False, None, "3", (3,), [3], 100)


def parts(things):
    """All subsequences of things."""
    return [some for length in range(len(things) + 1) for some in itertools.combinations(things, length)]


def all_copies(many):
    """All pairs of copies and free places for so many places."""
    found = []
    for sources in itertools.product(range(-1, many), repeat=many):
        copies = {place: source for place, source in enumerate(sources) if source >= 0}
        found += [(copies, free) for free in parts([place for place in range(many) if place not in copies])]
    return found


def some_copies(many, seed, times):
    """So many such pairs, the same for the same seed."""
    return random.Random(seed).sample(all_copies(many), times)


def wanted(held, many, copies, free):
    """Whether this is right, by the words of the document."""
    for place in range(many):
        goal = copies[place] if place in copies else place
        if place not in free and held[place] != goal:
            return False
    return True


def after(held, place, source):
    """What is held when a place has got what another one holds."""
    new = list(held)
    new[place] = held[source]
    return tuple(new)


def fewest_moves(many, copies, free):
    """The least number of moves, by going through all that can be held, layer by layer; None if none are enough."""
    layer, seen, number = {tuple(range(many))}, set(), 0
    while layer:
        if any(wanted(held, many, copies, free) for held in layer):
            return number
        seen |= layer
        layer = {after(held, *pair) for held in layer for pair in itertools.permutations(range(many), 2)} - seen
        number += 1
    return None


def is_fewest(paper, many, copies, free):
    """Whether a Fewest is right, by the words of the document."""
    held = tuple(range(many))
    for move in paper.moves:
        if len(move) != 2 or move[0] == move[1] or not all(0 <= place < many for place in move):
            return False
        held = after(held, *move)
    levels = paper.levels
    if not wanted(held, many, copies, free) or levels.get(tuple(range(many)), 0) < len(paper.moves):
        return False
    for held, level in levels.items():
        if level > 0 and wanted(held, many, copies, free):
            return False
        for pair in itertools.permutations(range(many), 2):
            if level > 1 and levels.get(after(held, *pair), 0) < level - 1:
                return False
    return True


class MovesTest(RoomTest):
    def ask(self, many, copies, free):
        """Ask what the moves of copies are against an own search."""
        least = fewest_moves(many, copies, free)
        self.assertEqual(count_moves(many, copies, free), least, (many, copies, free))
        found = in_row(many, copies, free)
        self.assertIs(type(found), Stuck if least is None else Fewest)
        self.assertIs(found.shows(many, copies, free), True, (many, copies, free))
        if least is not None:
            self.assertEqual(len(found.moves), least)
            self.assertTrue(is_fewest(found, many, copies, free))
            self.assertTrue(wanted(hold(many, found.moves), many, copies, free))
            self.assertIs(type(found.moves), list)

    def test_all_copies_of_up_to_three_places(self):
        for many in (1, 2, 3):
            for copies, free in all_copies(many):
                self.ask(many, copies, free)

    def test_copies_of_four_and_five_places(self):
        for copies, free in some_copies(4, 11, 150):
            self.ask(4, copies, free)
        for copies, free in some_copies(5, 12, 40):
            self.ask(5, copies, free)

    def test_ordinary_copies(self):
        for many, copies, free, number in (
                (3, {}, (), 0), (3, {}, (0, 1, 2), 0), (1, {0: 0}, (), 0), (2, {0: 0, 1: 1}, (), 0), (1, {}, (0,), 0),
                (2, {0: 1}, (), 1), (2, {0: 1}, (1,), 1), (3, {0: 1, 1: 2}, (), 2), (5, {0: 1, 1: 2, 2: 3, 3: 4}, (), 4),
                (2, SWAP, (), None), (3, SWAP, (), None), (3, SWAP, (2,), 3), (3, {0: 1, 1: 0, 2: 0}, (), 3),
                (3, {0: 1, 1: 2, 2: 0}, (), None), (4, {0: 1, 1: 2, 2: 0}, (3,), 4), (4, {0: 1, 1: 2, 2: 0}, (), None),
                (4, {0: 1, 1: 0, 2: 3, 3: 2}, (), None), (5, {0: 1, 1: 0, 2: 3, 3: 2}, (4,), 6),
                (5, {0: 1, 1: 0, 2: 3, 3: 2}, (), None), (5, {0: 1, 1: 0, 2: 3, 3: 2, 4: 0}, (), 6),
                (4, {0: 3, 1: 3, 2: 3}, (), 3), (4, {0: 0, 1: 0, 2: 0, 3: 0}, (), 3), (4, SWAP, (2, 3), 3),
                (4, {0: 1, 1: 0, 2: 3}, (), 4), (4, {0: 1, 1: 0, 2: 3}, (3,), 4), (5, {0: 1, 1: 0, 2: 2, 3: 4}, (), 4),
                (5, {0: 1, 1: 2, 2: 3, 3: 4, 4: 0}, (), None)):
            self.assertEqual(count_moves(many, copies, free), number, (many, copies, free))

    def test_a_place_that_is_copied_from_can_be_used(self):
        # What place 2 holds is put into 3 first, so that 2 can help with the ring, and gets it back at the end.
        copies = {0: 1, 1: 0, 3: 2}
        self.assertEqual(count_moves(4, copies, ()), fewest_moves(4, copies, ()))
        self.assertEqual(count_moves(4, copies, (2,)), 4)

    def test_hold(self):
        self.assertEqual(hold(3, [(2, 0), (0, 1), (1, 2)]), (1, 0, 0))
        self.assertEqual(hold(3, ((2, 0), (0, 1), (1, 2))), (1, 0, 0))
        self.assertEqual(hold(2, [(0, 1), (1, 0)]), (1, 1))
        for many in range(1, 6):
            for none in ([], ()):
                self.assertEqual(hold(many, none), tuple(range(many)))
        rng = random.Random(5)
        for many in (2, 3, 4, 5):
            for _ in range(20):
                moves = [tuple(rng.sample(range(many), 2)) for _ in range(rng.randrange(9))]
                held = list(range(many))
                for place, source in moves:
                    held[place] = held[source]
                self.assertEqual(hold(many, moves), tuple(held))

    def test_no_moves(self):
        for many in NO_PLACES:
            self.refused(BadMoves, hold, many, [])
        for moves in (None, 0, "ab", {}, {(0, 1)}, {(0, 1): 1}, [(0, 0)], [(0, 3)], [(-1, 0)], [(0,)], [(0, 1, 2)], [()],
                      [[0, 1]], [(True, 0)], [(0, False)], [("0", 1)], [None], [0], [(0, 1), (1, 1)], ((0, 1), None)):
            self.refused(BadMoves, hold, 3, moves)
        self.refused(BadMoves, hold, 1, [(0, 1)])

    def test_no_copies(self):
        for ask in (in_row, count_moves, Fewest([], {}).shows, Stuck([]).shows):
            for many in NO_PLACES:
                self.refused(BadMoves, ask, many, {}, ())
            for copies in NO_COPIES:
                self.refused(BadMoves, ask, 3, copies, ())
            for free in NO_FREE:
                self.refused(BadMoves, ask, 3, {0: 1}, free)
            for free in ((0,), (1,), (0, 2), (0, 1, 2)):
                self.refused(BadMoves, ask, 3, SWAP, free)
            self.refused(BadMoves, ask, 2, {0: 2}, ())
            self.refused(BadMoves, ask, 2, {0: 1}, (2,))

    def test_nothing_is_changed(self):
        copies = {1: 0, 0: 1}
        for free in ((), (2,)):
            found = in_row(3, copies, free)
            found.shows(3, copies, free)
            self.assertEqual(list(copies.items()), [(1, 0), (0, 1)])
        moves = [(0, 1), (1, 2)]
        hold(3, moves)
        self.assertEqual(moves, [(0, 1), (1, 2)])

    def test_copies_in_another_order(self):
        one, other = {0: 1, 1: 0, 2: 0}, {2: 0, 1: 0, 0: 1}
        self.assertEqual(in_row(3, one, ()), in_row(3, other, ()))
        self.assertTrue(in_row(3, one, ()).shows(3, other, ()))


class FewestTest(RoomTest):
    copies, free = {0: 1, 1: 0, 2: 0}, ()

    def shown(self, moves, levels, many=3, copies=None, free=None):
        """Whether a Fewest shows, which is asked for by the words of the document, too."""
        copies = self.copies if copies is None else copies
        free = self.free if free is None else free
        paper = Fewest(moves, levels)
        found = paper.shows(many, copies, free)
        self.assertIs(found, is_fewest(paper, many, copies, free), (moves, levels))
        return found

    def setUp(self):
        found = in_row(3, self.copies, self.free)
        self.moves, self.levels = list(found.moves), dict(found.levels)

    def test_moves(self):
        self.assertTrue(self.shown([(2, 0), (0, 1), (1, 2)], self.levels))
        self.assertFalse(self.shown([(2, 0), (0, 1)], self.levels))
        self.assertFalse(self.shown([], self.levels))
        self.assertFalse(self.shown([(2, 0), (1, 2), (0, 1)], self.levels))
        self.assertFalse(self.shown([(2, 0), (0, 1), (1, 2), (2, 1)], self.levels))
        self.assertFalse(self.shown([(2, 0), (2, 0), (0, 1), (1, 2)], self.levels))
        self.assertFalse(self.shown([(2, 0), (0, 1), (1, 2), (1, 2)], {**self.levels, (0, 1, 2): 4}))
        for wrong in ((0, 0), (0, 3), (3, 0), (-1, 0), (0,), (0, 1, 2), ()):
            self.assertFalse(Fewest([*self.moves, wrong], self.levels).shows(3, self.copies, ()), wrong)
            self.assertFalse(Fewest([wrong, *self.moves], {**self.levels, (0, 1, 2): 4}).shows(3, self.copies, ()), wrong)
        for wrong in (None, [2, 0], "20", (2, False), 0):
            self.assertFalse(Fewest([wrong, (0, 1), (1, 2)], self.levels).shows(3, self.copies, ()), wrong)

    def test_levels(self):
        self.assertFalse(self.shown(self.moves, {}))
        self.assertFalse(self.shown([(0, 1)], {}, many=2, copies={0: 1}))
        self.assertFalse(self.shown([(0, 1)], {(1, 0): 1}, many=2, copies={0: 1}))
        self.assertFalse(self.shown(self.moves, {held: level for held, level in self.levels.items() if level < 3}))
        for level in range(-2, 3):
            self.assertFalse(self.shown(self.moves, {**self.levels, (0, 1, 2): level}))
        self.assertFalse(self.shown(self.moves, {**self.levels, (0, 1, 2): 4}))
        right = (1, 0, 0)
        for level in (-5, -1, 0):
            self.assertTrue(self.shown(self.moves, {**self.levels, right: level}))
        for level in (1, 2):
            self.assertFalse(self.shown(self.moves, {**self.levels, right: level}))
        # From what has a level of 2, each move leads to a level of 1 at least, and not to one that is right.
        for held, level in self.levels.items():
            if level > 1:
                for pair in itertools.permutations(range(3), 2):
                    behind = after(held, *pair)
                    self.assertFalse(self.shown(self.moves, {**self.levels, behind: level - 2}), (held, behind))

    def test_levels_of_what_does_not_come_about(self):
        self.assertNotIn((2, 0, 1), self.levels)
        for level in (1, 0, -1, -100):
            self.assertTrue(self.shown(self.moves, {**self.levels, (2, 0, 1): level}), level)
            self.assertTrue(self.shown([(0, 1)], {(0, 1): 1, (1, 0): level}, many=2, copies={0: 1}))
        self.assertFalse(self.shown(self.moves, {**self.levels, (2, 0, 1): 2}))
        self.assertFalse(self.shown(self.moves, {**self.levels, (2, 0, 1): 100}))
        # All that can be held where all places hold the same leads to itself alone.
        same = {(place,) * 3: 100 for place in range(3)}
        self.assertTrue(self.shown(self.moves, {**self.levels, **same}))

    def test_levels_greater_than_needed(self):
        # Nothing that is right can be come to from (0, 0), so that its level may be any.
        self.assertTrue(self.shown([(0, 1)], {(0, 1): 1, (0, 0): 7}, many=2, copies={0: 1}))
        self.assertFalse(self.shown([(0, 1)], {(0, 1): 1, (1, 1): 7}, many=2, copies={0: 1}))
        self.assertFalse(self.shown([(0, 1)], {(0, 1): 2, (0, 0): 7}, many=2, copies={0: 1}))

    def test_no_moves(self):
        for levels in ({}, {(0, 1): 0}, {(1, 1): 1}, {(1, 1): 5, (0, 0): 1}, {(1, 0): -3}):
            self.assertTrue(self.shown([], levels, many=2, copies={}))
        for levels in ({(0, 1): 1}, {(0, 1): 0, (1, 0): 2}, {(0, 1): -1}):
            self.assertFalse(self.shown([], levels, many=2, copies={}))
        self.assertFalse(self.shown([], {}, many=2, copies={0: 1}))
        self.assertFalse(self.shown([], {(0, 1): 1}, many=2, copies={0: 1}))
        self.assertTrue(self.shown([], {}, many=2, copies={0: 0}))
        self.assertTrue(self.shown([], {}, many=2, copies={}, free=(0, 1)))

    def test_what_is_no_level(self):
        for held in ((0, 1), (0, 1, 2, 0), (0, 1, 3), (-1, 0, 1), (0, 1, True), None, 0, "012"):
            self.assertFalse(Fewest(self.moves, {**self.levels, held: 0}).shows(3, self.copies, ()), held)
        for level in (True, None, "3", (3,)):
            self.assertFalse(Fewest(self.moves, {**self.levels, (0, 1, 2): level}).shows(3, self.copies, ()), level)

    def test_altered(self):
        rng = random.Random(8)
        for many, copies, free in ((3, self.copies, ()), (2, {0: 1}, ()), (3, SWAP, (2,)), (3, {0: 1, 1: 2}, ())):
            found = in_row(many, copies, free)
            for _ in range(60):
                levels, moves = dict(found.levels), list(found.moves)
                for _ in range(rng.randint(1, 2)):
                    held = tuple(rng.choices(range(many), k=many))
                    levels[held] = rng.randint(-1, 4)
                if rng.random() < 0.3:
                    moves.insert(rng.randint(0, len(moves)), tuple(rng.sample(range(many), 2)))
                self.shown(moves, levels, many, copies, free)

    def test_in_another_order(self):
        other = {held: self.levels[held] for held in reversed(list(self.levels))}
        self.assertTrue(self.shown(self.moves, other))
        self.assertEqual(Fewest(self.moves, other), Fewest(self.moves, self.levels))

    def test_current_attributes(self):
        paper = Fewest(self.moves, self.levels)
        paper.moves.pop()
        self.assertFalse(paper.shows(3, self.copies, ()))
        paper.moves = list(self.moves)
        self.assertTrue(paper.shows(3, self.copies, ()))
        paper.levels = {}
        self.assertFalse(paper.shows(3, self.copies, ()))

    def test_other_copies(self):
        paper = Fewest(self.moves, self.levels)
        self.assertFalse(paper.shows(3, SWAP, ()))
        self.assertIs(paper.shows(3, SWAP, (2,)), is_fewest(paper, 3, SWAP, (2,)))
        self.assertFalse(paper.shows(2, SWAP, ()))
        self.assertFalse(paper.shows(4, self.copies, ()))

    def test_copied_and_equal(self):
        moves, levels = list(self.moves), dict(self.levels)
        paper = Fewest(moves, levels)
        moves.append((0, 1))
        levels.clear()
        self.assertEqual((paper.moves, paper.levels), (self.moves, self.levels))
        self.all_different(Fewest([], {}), Fewest([(0, 1)], {}), Fewest([], {(0, 1): 1}), Stuck([]), Stuck([(0, 1)]))
        self.assertEqual(Fewest([(0, 1)], {(0, 1): 1}), Fewest([(0, 1)], {(0, 1): 1}))


class StuckTest(RoomTest):
    def test_altered(self):
        for many, copies in ((2, SWAP), (3, {0: 1, 1: 2, 2: 0}), (3, SWAP)):
            states = list(in_row(many, copies, ()).states)
            self.assertEqual(len(set(states)), len(states))
            self.assertTrue(Stuck(states[::-1]).shows(many, copies, ()))
            self.assertTrue(Stuck(states + states[:2]).shows(many, copies, ()))
            self.assertFalse(Stuck([]).shows(many, copies, ()))
            for at, state in enumerate(states):
                rest = states[:at] + states[at + 1:]
                led = any(after(held, *pair) == state for held in rest for pair in itertools.permutations(range(many), 2))
                self.assertIs(Stuck(rest).shows(many, copies, ()), not led and state != tuple(range(many)))

    def test_the_beginning_left_out(self):
        self.assertTrue(Stuck([(0, 1), (0, 0), (1, 1)]).shows(2, SWAP, ()))
        self.assertFalse(Stuck([(0, 0), (1, 1)]).shows(2, SWAP, ()))
        self.assertFalse(Stuck([(0, 0)]).shows(2, SWAP, ()))

    def test_a_right_one(self):
        self.assertFalse(Stuck([(0, 1), (0, 0), (1, 1), (1, 0)]).shows(2, SWAP, ()))
        self.assertFalse(Stuck([(0, 1), (0, 0), (1, 1)]).shows(2, {0: 1}, ()))
        self.assertFalse(Stuck([(0, 1), (0, 0), (1, 1)]).shows(2, {}, ()))

    def test_more_than_comes_about(self):
        states = in_row(3, {0: 1, 1: 2, 2: 0}, ()).states
        self.assertNotIn((1, 0, 2), states)
        self.assertTrue(Stuck([*states, (1, 0, 2)]).shows(3, {0: 1, 1: 2, 2: 0}, ()))
        self.assertFalse(Stuck([*states, (1, 2, 0)]).shows(3, {0: 1, 1: 2, 2: 0}, ()))

    def test_what_is_no_state(self):
        states = in_row(2, SWAP, ()).states
        for wrong in ((0,), (0, 1, 1), (0, 2), (-1, 0), (0, True), None, 0, "01", [0, 1]):
            self.assertFalse(Stuck([*states, wrong]).shows(2, SWAP, ()), wrong)
        self.assertFalse(Stuck(states).shows(3, SWAP, ()))

    def test_current_attributes_and_copies(self):
        states = [(0, 1), (0, 0), (1, 1)]
        paper = Stuck(states)
        states.clear()
        self.assertTrue(paper.shows(2, SWAP, ()))
        paper.states.pop()
        self.assertFalse(paper.shows(2, SWAP, ()))
        self.assertIsNot(in_row(2, SWAP, ()).states, in_row(2, SWAP, ()).states)
        self.assertEqual(in_row(2, SWAP, ()), in_row(2, SWAP, ()))
