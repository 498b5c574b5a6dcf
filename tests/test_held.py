"""Point [13], what is held, and rooms for it."""

import itertools
import random

from registerrooms.errors import BadPoint, BadProgram, BadSingle, TooLarge
from registerrooms.held import Coloured, clashes, colour, held_at, in_order, most_held, rivals_of
from registerrooms.making import to_single
from registerrooms.programs import Program
from registerrooms.rivals import Rivals
from registerrooms.roads import heads
from registerrooms.single import Single
from tests.samples import (
    FORK, LOOP, NEVER, NO_PROGRAMS, RING, SINGLE, STOP, RoomTest, made_single, random_programs, straight,
)
from tests.test_live import SWAP, is_used_later

COUNT = Program(2, (
    ((("put", 0, 3),), ("go", 1)), ((), ("part", 0, 2, 3)), ((("sub", 0, 0, 1),), ("go", 1)),
    ((("tell", 0),), STOP)))
COUNTED = to_single(COUNT)
# Joins and what is handed in that nobody uses, and a join that is used by itself alone.
UNUSED = Single(6, (2, 0), (
    ((), (("put", 1, 1), ("take", 3)), ("go", 1)),
    (((4, (1, 4)), (5, (1, 1))), (("tell", 1),), ("part", 1, 1, 2)),
    ((), (), STOP)))
NO_POINTS = (
    None, 0, "00", [0, 0], (), (0,), (0, 0, 0), (4, 0), (-1, 0), (0, -1), (0, 4), (True, 0), (0, False), (0, None), ("0", 0))
NO_PLAIN = (*NO_PROGRAMS, SINGLE)
NO_SINGLE = (*NO_PROGRAMS, LOOP)


def born(program, point):
    """The variables that are defined directly ahead of a point."""
    block, done = point
    if done:
        row = program.rows(block)[done - 1]
        return set() if row[0] == "tell" else {row[1]}
    single = isinstance(program, Single)
    found = {one for one, _ in program.joins(block)} if single else set()
    if block == 0:
        found |= set(program.handed if single else range(program.handed))
    return found


def all_held(program):
    """A dict from all points to what is held there, by the words of the document."""
    return {point: {one for one in range(program.many) if is_used_later(program, point, one)} | born(program, point)
            for point in program.points}


def is_coloured(paper, single):
    """Whether a Coloured is right, by the words of the document."""
    held, rooms = all_held(single), paper.rooms
    if len(rooms) != single.many or paper.point not in held or not all(0 <= room < single.many for room in rooms):
        return False
    if set(rooms) != set(range(max(rooms) + 1)):
        return False
    for some in held.values():
        if len({rooms[one] for one in some}) < len(some):
            return False
    return len(held[paper.point]) == len(set(rooms))


def singles(seed, times, **named):
    """Single programs made of so many plain ones, each in two ways."""
    found = []
    for program in random_programs(seed, times, **named):
        found += [to_single(program), made_single(program)]
    return found


class HeldTest(RoomTest):
    def ask(self, program):
        """Ask what is held against the words of the document."""
        held = all_held(program)
        for point, some in held.items():
            found = held_at(program, point)
            self.assertIs(type(found), tuple)
            self.assertEqual(found, tuple(sorted(some)), (program.blocks, point))
        pairs = {pair for some in held.values() for pair in itertools.combinations(sorted(some), 2)}
        self.assertEqual(clashes(program), sorted(pairs))
        self.assertEqual(most_held(program), max(map(len, held.values())))

    def test_ordinary(self):
        self.assertEqual([held_at(COUNTED, point) for point in COUNTED.points], [
            (), (0,), (1,), (1, 2), (1, 3), (1, 3), (1, 4), (3,), ()])
        self.assertEqual((clashes(COUNTED), most_held(COUNTED)), ([(1, 2), (1, 3), (1, 4)], 2))
        self.assertEqual([held_at(COUNT, point) for point in COUNT.points], [
            (1,), (0, 1), (0, 1), (0, 1), (0, 1), (0,), ()])
        self.assertEqual([held_at(LOOP, point) for point in LOOP.points], [(), (0,), (0, 1), (0, 1), (0, 1), (0, 1), ()])

    def test_what_is_not_used(self):
        self.assertEqual([held_at(UNUSED, point) for point in UNUSED.points], [
            (0, 2), (1,), (1, 3), (1, 4, 5), (1, 4), ()])
        program = straight([("take", 1), ("put", 0, 1), ("tell", 1)], many=3, handed=2)
        self.assertEqual([held_at(program, point) for point in program.points], [(0, 1), (1,), (0, 1), ()])
        self.assertEqual((clashes(program), most_held(program)), ([(0, 1)], 2))

    def test_what_is_handed_in_is_held_at_the_first_point_only(self):
        program = straight([("put", 2, 1), ("tell", 2)], many=3, handed=2)
        self.assertEqual([held_at(program, point) for point in program.points], [(0, 1), (2,), ()])
        single = Single(3, (1, 0), (((), (("put", 2, 1),), STOP),))
        self.assertEqual([held_at(single, point) for point in single.points], [(0, 1), (2,)])
        self.assertEqual(held_at(straight([], many=3), (0, 0)), ())
        self.assertEqual((clashes(straight([], many=3)), most_held(straight([], many=3))), ([], 0))

    def test_generated(self):
        for program in (COUNT, COUNTED, UNUSED, LOOP, FORK, NEVER, RING, SINGLE, SWAP,
                        *random_programs(61, 40, many=3, count=4, rows=3, handed=2, span=3),
                        *singles(62, 25, many=2, count=4, rows=2, handed=1)):
            self.ask(program)

    def test_rivals_of(self):
        self.assertEqual(rivals_of(COUNT), Rivals(2, ((0, 1),)))
        self.assertEqual(rivals_of(FORK), Rivals(1))
        for program in random_programs(63, 30, many=4, count=4, rows=4, handed=1):
            self.assertEqual((rivals_of(program).many, list(rivals_of(program).pairs)), (4, clashes(program)))
            self.assertIs(type(rivals_of(program)), Rivals)
        self.assertIsNot(rivals_of(COUNT), rivals_of(COUNT))

    def test_new_each_time(self):
        for ask in (lambda: clashes(COUNT), lambda: in_order(COUNTED)):
            goal = list(ask())
            self.assertIsNot(ask(), ask())
            ask().clear()
            self.assertEqual(ask(), goal)
        self.assertIsNot(colour(COUNTED), colour(COUNTED))

    def test_refused(self):
        for program in NO_PROGRAMS:
            for ask in (clashes, most_held):
                self.assertIsNone(self.refused(BadProgram, ask, program).part)
            for point in ((0, 0), None):
                self.assertIsNone(self.refused(BadProgram, held_at, program, point).part)
        for program in NO_PLAIN:
            self.assertIsNone(self.refused(BadProgram, rivals_of, program).part)
        for program in NO_SINGLE:
            for ask in (colour, in_order, Coloured((), (0, 0)).shows, Coloured(None, None).shows):
                self.assertIsNone(self.refused(BadSingle, ask, program).part)
        for program in (COUNT, COUNTED):
            for point in NO_POINTS:
                self.refused(BadPoint, held_at, program, point)


class OrderTest(RoomTest):
    def test_ordinary(self):
        self.assertEqual(in_order(COUNTED), [0, 1, 2, 3, 4])
        self.assertEqual(in_order(UNUSED), [0, 2, 1, 3, 4, 5])
        self.assertEqual(in_order(SINGLE), [0, 1, 2, 3])

    def test_by_heads_then_by_points(self):
        # Block 1 is headed by all others, block 2 by block 0 alone, though it has a greater number.
        single = Single(6, (5,), (
            ((), (), ("go", 2)), ((), (("put", 0, 1),), STOP), ((), (("put", 4, 1), ("put", 1, 1)), ("go", 3)),
            ((), (("put", 2, 1), ("put", 3, 0)), ("go", 1))))
        self.assertEqual(in_order(single), [5, 4, 1, 2, 3, 0])
        fork = Single(4, (3,), (
            ((), (), ("part", 3, 2, 1)), ((), (("put", 1, 1),), ("go", 3)), ((), (("put", 0, 1),), ("go", 3)),
            (((2, (1, 0)),), (), STOP)))
        self.assertEqual(in_order(fork), [3, 1, 0, 2])

    def test_generated(self):
        for single in singles(64, 30, many=2, count=5, rows=2, handed=1):
            order = in_order(single)
            self.assertIs(type(order), list)
            self.assertEqual(order, sorted(range(single.many), key=lambda one: (
                len(heads(single, single.definition(one)[0])), single.definition(one), one)))
            for at, one in enumerate(order):
                block, done = single.definition(one)
                for other in range(single.many):
                    source, place = single.definition(other)
                    if source in heads(single, block) and (source != block or place < done):
                        self.assertLess(order.index(other), at)


class ColouredTest(RoomTest):
    def shown(self, single, rooms, point):
        """Whether a Coloured shows, which is asked for by the words of the document, too."""
        found = Coloured(rooms, point).shows(single)
        self.assertIs(found, is_coloured(Coloured(rooms, point), single), (rooms, point))
        return found

    def test_colour(self):
        for single in (COUNTED, UNUSED, SINGLE, SWAP, *singles(65, 40, many=3, count=5, rows=2, handed=2),
                       *singles(66, 15, many=2, count=7, rows=3, handed=0)):
            found = colour(single)
            self.assertIs(type(found), Coloured)
            self.assertIs(type(found.rooms), tuple)
            self.assertIs(found.shows(single), True)
            self.assertTrue(is_coloured(found, single))
            self.assertEqual(len(set(found.rooms)), most_held(single))

    def test_large_ones(self):
        for program in random_programs(67, 30, many=8, count=4, rows=6, handed=3):
            try:
                single = to_single(program)
            except TooLarge:
                continue
            self.assertTrue(colour(single).shows(single))
            self.assertEqual(len(set(colour(single).rooms)), most_held(single))
        full = Single(48, (), (((), tuple(("put", one, 1) for one in range(24)), ("go", 1)), (
            (), tuple(("put", one, 1) for one in range(24, 48)), ("go", 2)), *(
                ((), tuple(("tell", one) for one in range(at, at + 24)), ("go", 3 if at == 0 else 4)) for at in (0, 24)),
            ((), (), STOP)))
        self.assertEqual(colour(full), Coloured(tuple(range(48)), (1, 24)))
        self.assertTrue(colour(full).shows(full))

    def test_one_variable(self):
        one = Single(1, (0,), (((), (), STOP),))
        self.assertEqual(colour(one), Coloured((0,), (0, 0)))
        self.assertTrue(colour(one).shows(one))
        self.assertFalse(Coloured((1,), (0, 0)).shows(one))

    def test_rooms(self):
        self.assertTrue(self.shown(COUNTED, (0, 0, 1, 1, 1), (2, 1)))
        self.assertTrue(self.shown(COUNTED, (1, 0, 1, 1, 1), (0, 3)))
        for rooms in itertools.product(range(3), repeat=5):
            self.shown(COUNTED, rooms, (2, 1))
        for rooms in ((0, 0, 0, 1, 1), (0, 0, 1, 1, 0), (0, 0, 2, 2, 2), (0, 0, 1, 1, 2), (0, 0, 1, 1), (),
                      (0, 0, 1, 1, 1, 1), (0, 0, 1, 1, 5), (0, 0, -1, -1, -1), (0, 0, 5, 5, 5), (1, 1, 2, 2, 2)):
            self.assertFalse(self.shown(COUNTED, rooms, (2, 1)), rooms)
        for rooms in ((False, 0, 1, 1, 1), (0, 0, True, 1, 1), (0, 0, 1, 1, None), None, [0, 0, 1, 1, 1], "00111", 0):
            self.assertIs(Coloured(rooms, (2, 1)).shows(COUNTED), False, rooms)

    def test_points(self):
        rooms = (0, 0, 1, 1, 1)
        for point in COUNTED.points:
            self.assertIs(self.shown(COUNTED, rooms, point), point in ((0, 3), (1, 0), (2, 0), (2, 1)))
        for point in (*NO_POINTS, (2, 2), (3, 2), (2, True)):
            self.assertIs(Coloured(rooms, point).shows(COUNTED), False, point)
        # More rooms than can be shown to be needed.
        for point in COUNTED.points:
            self.assertFalse(self.shown(COUNTED, (0, 0, 1, 1, 2), point))

    def test_altered(self):
        rng = random.Random(68)
        for single in (UNUSED, SINGLE, SWAP, *singles(69, 12, many=2, count=3, rows=2, handed=1)):
            found = colour(single)
            for _ in range(40):
                rooms, point = list(found.rooms), found.point
                how = rng.randrange(4)
                one, other = rng.randrange(single.many), rng.randrange(single.many)
                if how == 0:
                    rooms[one] = rooms[other]
                elif how == 1:
                    rooms[one], rooms[other] = rooms[other], rooms[one]
                elif how == 2:
                    rooms = [room + (room >= rooms[one]) for room in rooms]
                else:
                    point = rng.choice(single.points)
                self.shown(single, tuple(rooms), point)

    def test_current_attributes_and_equality(self):
        paper = Coloured((0, 0, 1, 1, 1), (2, 1))
        self.assertTrue(paper.shows(COUNTED))
        paper.point = (3, 0)
        self.assertFalse(paper.shows(COUNTED))
        paper.point = (2, 1)
        paper.rooms = (0, 0, 0, 0, 0)
        self.assertFalse(paper.shows(COUNTED))
        self.all_different(Coloured((0,), (0, 0)), Coloured((1,), (0, 0)), Coloured((0,), (0, 1)))
        self.assertEqual(Coloured((0,), (0, 0)), Coloured((0,), (0, 0)))
