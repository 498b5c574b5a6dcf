"""Point [21], single programs made plain again."""

import functools
import itertools
import random

from registerrooms.alike import tell_alike
from registerrooms.back import has_spare, rebuilt, to_plain
from registerrooms.errors import BadProgram, BadRooms, BadSingle, TooLarge
from registerrooms.held import clashes, colour, most_held
from registerrooms.making import to_single
from registerrooms.programs import Program
from registerrooms.runs import run
from registerrooms.single import Single
from tests.samples import (
    FORK, LOOP, NEVER, NO_PROGRAMS, RING, SINGLE, STOP, RoomTest, events, made_single, random_programs, straight,
    targets, trace, tuples,
)
from tests.test_held import COUNT, COUNTED, UNUSED, all_held

ROOMS = (0, 0, 1, 1, 1)
# Two variables change places each time around a loop; nothing else is held there.
SWAP = Single(6, (0, 1, 2), (
    ((), (), ("go", 1)),
    (((3, (0, 4)), (4, (1, 3)), (5, (2, 5))), (("tell", 3),), ("part", 5, 1, 2)),
    ((), (), STOP)))
# The same, but that the loop goes on by a go.
SWAP_GO = Single(6, (0, 1, 2), (
    ((), (), ("go", 1)),
    (((3, (0, 4)), (4, (1, 3)), (5, (2, 5))), (("tell", 3),), ("part", 5, 2, 3)),
    ((), (), ("go", 1)), ((), (), STOP)))
# Both ways of an end into one block, one with a move and one without.
TWICE = Single(4, (0, 1, 2), (((), (), ("part", 0, 1, 1)), (((3, (1, 2)),), (("tell", 3),), STOP)))
NO_ROOMS = (
    None, 0, "00111", [0, 0, 1, 1, 1], {}, range(5), (), (0, 0, 1, 1), (0, 0, 1, 1, 1, 1), (0, 0, True, 1, 1),
    (False, 0, 1, 1, 1), (0, 0, 1, 1, None), (0, 0, 1, 1, "1"), (0, 0, 1, 1, 5), (0, 0, 1, 1, -1), (0, 0, 0, 1, 1),
    (0, 0, 1, 0, 1), (0, 0, 1, 1, 0), (0, 0, 0, 0, 0), (5, 5, 1, 1, 1), (0, 0, 1, 1, (1,)), (0, 0, 1, 1, 48))


@functools.lru_cache(maxsize=None)
def least_moves(many, copies, free):
    """The least number of moves to these places and the free ones alone that do the copies, None if none do."""
    copies = dict(copies)
    here = tuple(range(many))
    seen, now, number = {here}, [here], 0

    def is_right(held):
        return all(held[place] == copies.get(place, place) for place in range(many) if place not in free)

    while now:
        if any(map(is_right, now)):
            return number
        behind = {held[:place] + (held[source],) + held[place + 1:] for held in now
                  for place in {*copies, *free} for source in range(many)}
        now = sorted(behind - seen)
        seen |= behind
        number += 1
    return None


def counted_moves(many, copies, free):
    """The same by counting, for many places: one for each copy, and one more for each ring that nothing else reads."""
    left = {place: source for place, source in copies.items() if place != source}
    read = list(left.values())
    rings = set()
    for place in left:
        ring = [place]
        while ring[-1] in left and len(ring) <= many:
            ring.append(left[ring[-1]])
            if ring[-1] == place:
                if all(read.count(one) == 1 for one in ring):
                    rings.add(frozenset(ring))
                break
    if rings and all(place in read for place in {*left, *free}):
        return None
    return len(left) + len(rings)


class Goal:
    """What the plain program of a single one has where, by the words of the document."""

    def __init__(self, single, rooms):
        self.single, self.rooms, self.held = single, rooms, all_held(single)
        self.base = max(max(rooms) + 1, len(single.handed))
        self.edges = [(block, way) for block in range(len(single))
                      for way in range(len(targets(single.end(block))))]
        asked = [self.least(self.base, edge) for edge in (None, *self.edges)]
        self.spare = None in asked
        self.many = self.base + self.spare

    def target(self, edge):
        """The block to which an edge leads, and block 0 for the beginning."""
        return 0 if edge is None else targets(self.single.end(edge[0]))[edge[1]]

    def copies(self, edge):
        """What must be copied on an edge, or at the beginning."""
        if edge is None:
            return {self.rooms[one]: place for place, one in enumerate(self.single.handed)}
        at = self.single.edges_into(self.target(edge)).index(edge)
        return {self.rooms[one]: self.rooms[used[at]] for one, used in self.single.joins(self.target(edge))}

    def free(self, many, edge):
        """The variables that are no rooms of what is held at the beginning of the block."""
        return tuple(sorted(set(range(many)) - {self.rooms[one] for one in self.held[self.target(edge), 0]}))

    def least(self, many, edge):
        """The least number of moves."""
        copies, free = self.copies(edge), self.free(many, edge)
        number = counted_moves(many, copies, free)
        if many <= 4 and len(free) + len(copies) <= 4:
            assert least_moves(many, tuple(sorted(copies.items())), free) == number
        return number

    def rows(self, block):
        """The rows of a block, without moves for joins and what is handed in."""
        found = []
        for word, *rest in self.single.rows(block):
            if word == "put":
                found.append((word, self.rooms[rest[0]], rest[1]))
            elif word != "move" or self.rooms[rest[0]] != self.rooms[rest[1]]:
                found.append((word, *(self.rooms[one] for one in rest)))
        return tuple(found)

    def splits(self):
        """The edges that need a block of their own."""
        return [edge for edge in self.edges if self.single.end(edge[0])[0] == "part" and self.least(self.many, edge)]


class BackTest(RoomTest):
    def ask_moves(self, goal, edge, rows):
        """Ask whether rows are as few moves as possible for an edge, and write to nothing else."""
        copies, free = goal.copies(edge), goal.free(goal.many, edge)
        self.assertEqual(len(rows), goal.least(goal.many, edge))
        held = list(range(goal.many))
        for word, place, source in rows:
            self.assertEqual(word, "move")
            self.assertNotEqual(place, source)
            self.assertIn(place, {*copies, *free})
            held[place] = held[source]
        for place, source in copies.items():
            self.assertEqual(held[place], source)

    def ask(self, single, rooms):
        """Ask what is made against the words of the document; the plain program, None if it is too large."""
        goal = Goal(single, rooms)
        splits = goal.splits()
        sizes = [len(goal.rows(block)) + (block == 0) * goal.least(goal.many, None)
                 + (single.end(block)[0] == "go" and goal.least(goal.many, (block, 0))) for block in range(len(single))]
        if goal.many > 8 or len(single) + len(splits) > 16 or max(sizes) > 12:
            self.refused(TooLarge, to_plain, single, rooms)
            self.refused(TooLarge, has_spare, single, rooms)
            return None
        plain = to_plain(single, rooms)
        self.assertIs(type(plain), Program)
        self.assertEqual((plain.many, plain.handed, plain.span), (goal.many, len(single.handed), single.span))
        self.assertIs(has_spare(single, rooms), goal.spare)
        self.assertEqual(len(plain), len(single) + len(splits))
        for block in range(len(single)):
            rows, body = plain.rows(block), goal.rows(block)
            first = goal.least(goal.many, None) if block == 0 else 0
            if block == 0:
                self.ask_moves(goal, None, rows[:first])
            self.assertEqual(rows[first:first + len(body)], body)
            last, end = rows[first + len(body):], single.end(block)
            if end[0] == "go":
                self.ask_moves(goal, (block, 0), last)
            else:
                self.assertEqual(last, ())
            if end[0] == "part":
                ways = [len(single) + splits.index((block, way)) if (block, way) in splits else end[2 + way]
                        for way in (0, 1)]
                end = ("part", rooms[end[1]], *ways)
            self.assertEqual(plain.end(block), end)
        for at, edge in enumerate(splits, len(single)):
            self.assertEqual(plain.end(at), ("go", goal.target(edge)))
            self.ask_moves(goal, edge, plain.rows(at))
        return plain

    def ask_alike(self, single, rooms):
        """Ask this, and whether the plain program tells alike."""
        plain = self.ask(single, rooms)
        if plain is not None:
            self.assertTrue(tell_alike(single, plain), (single.blocks, rooms))
        return plain

    def test_examples(self):
        self.assertEqual(
            [to_plain(COUNTED, ROOMS)[0], to_plain(COUNTED, ROOMS)[2], to_plain(COUNTED, ROOMS).many,
             has_spare(COUNTED, ROOMS), rebuilt(COUNT).many],
            [((("put", 0, 0), ("put", 0, 0), ("put", 1, 3)), ("go", 1)), ((("sub", 1, 1, 0),), ("go", 1)), 2, False, 2])

    def test_ordinary(self):
        for single in (COUNTED, UNUSED, SINGLE, SWAP, SWAP_GO, TWICE, *map(to_single, (LOOP, FORK, RING, NEVER))):
            self.ask_alike(single, colour(single).rooms)

    def test_more_numbers_than_need_be(self):
        for single in (COUNTED, UNUSED, SINGLE, TWICE, SWAP, SWAP_GO, to_single(LOOP)):
            self.ask_alike(single, tuple(range(single.many)))
            self.ask_alike(single, tuple(range(single.many))[::-1])
            most = single.many - 1
            for more in range(1, 4):
                rooms = tuple(room + more for room in colour(single).rooms)
                if max(rooms) <= most:
                    self.ask_alike(single, rooms)
            rooms = tuple(2 * room for room in colour(single).rooms)
            if max(rooms) <= most:
                self.ask_alike(single, rooms)
            rooms = tuple(most - room for room in colour(single).rooms)
            self.ask_alike(single, rooms)
        # Rooms 0 and 2 are not used.
        plain = self.ask_alike(COUNTED, (1, 1, 3, 3, 3))
        self.assertEqual((plain.many, plain.rows(0)), (4, (("put", 1, 0), ("put", 1, 0), ("put", 3, 3))))

    def test_all_rooms(self):
        for single in (COUNTED, TWICE, SINGLE):
            pairs = clashes(single)
            for rooms in itertools.product(range(single.many), repeat=single.many):
                if all(rooms[one] != rooms[other] for one, other in pairs):
                    self.ask_alike(single, rooms)
                else:
                    self.refused(BadRooms, to_plain, single, rooms)

    def test_generated(self):
        rng = random.Random(71)
        for handed in range(4):
            for program in random_programs(72 + handed, 15, many=3, count=4, rows=3, handed=handed, span=2):
                for single in (to_single(program), made_single(program)):
                    rooms = colour(single).rooms
                    plain = self.ask_alike(single, rooms)
                    order = rng.sample(range(min(single.many, 8)), min(single.many, 8))
                    self.ask_alike(single, tuple(order[room] for room in rooms))
                    if plain is not None:
                        self.assertTrue(tell_alike(program, plain))

    def test_runs(self):
        for program in random_programs(79, 15, many=2, count=4, rows=3, handed=1, span=3):
            single = to_single(program)
            plain = self.ask(single, colour(single).rooms)
            for handed in tuples(range(3), 1):
                for inputs in tuples(range(3), 2):
                    self.assertEqual(run(plain, handed, inputs), events(single, handed, inputs, 100))
                    self.assertEqual(trace(plain, handed, inputs, 60), trace(program, handed, inputs, 60))

    def test_moves_from_a_room_to_itself(self):
        single = Single(3, (0,), (((), (("move", 1, 0), ("tell", 1), ("move", 2, 1), ("tell", 2)), STOP),))
        for rooms, goal in (
                ((0, 0, 0), (("tell", 0), ("tell", 0))),
                ((0, 1, 1), (("move", 1, 0), ("tell", 1), ("tell", 1))),
                ((0, 1, 0), (("move", 1, 0), ("tell", 1), ("move", 0, 1), ("tell", 0))),
                ((1, 1, 1), (("move", 1, 0), ("tell", 1), ("tell", 1)))):
            self.assertEqual(self.ask_alike(single, rooms).rows(0), goal)

    def test_what_is_handed_in(self):
        for order in itertools.permutations(range(3)):
            rows = tuple(("tell", one) for one in range(3))
            single = Single(3, order, (((), rows, STOP),))
            for rooms in itertools.permutations(range(3)):
                plain = self.ask_alike(single, rooms)
                copies = {rooms[one]: place for place, one in enumerate(order)}
                wrong = sum(place != source for place, source in copies.items())
                self.assertIs(has_spare(single, rooms), wrong > 0)
                self.assertEqual((plain.many, len(plain.rows(0))), (3 + (wrong > 0), 3 + wrong + (wrong > 0)))
        # A ring of two with a room that is not held there, and a chain.
        single = Single(3, (0, 1), (((), (("tell", 0), ("tell", 1), ("put", 2, 1), ("tell", 2)), STOP),))
        self.assertEqual((self.ask_alike(single, (1, 0, 2)).many, has_spare(single, (1, 0, 2))), (3, False))
        self.assertEqual((self.ask_alike(single, (1, 0, 0)).many, has_spare(single, (1, 0, 0))), (3, True))
        self.assertEqual(self.ask_alike(single, (1, 2, 2)).rows(0)[:2], (("move", 2, 1), ("move", 1, 0)))
        # What is not used is held at the first point, and is copied, too.
        single = Single(2, (1, 0), (((), (), STOP),))
        self.assertEqual(len(self.ask_alike(single, (0, 1)).rows(0)), 3)
        self.assertEqual(self.ask_alike(single, (1, 0)).rows(0), ())

    def test_rings_of_joins(self):
        rooms = (0, 1, 2, 0, 1, 2)
        plain = self.ask_alike(SWAP, rooms)
        self.assertEqual((plain.many, has_spare(SWAP, rooms), len(plain)), (4, True, 4))
        self.assertEqual((plain.end(1), len(plain.rows(3)), plain.end(3)), (("part", 2, 3, 2), 3, ("go", 1)))
        plain = self.ask_alike(SWAP_GO, rooms)
        self.assertEqual((plain.many, has_spare(SWAP_GO, rooms), len(plain), len(plain.rows(2))), (4, True, 4, 3))
        # With a room more that is not held at the beginning of the block, no variable more.
        for single in (SWAP, SWAP_GO):
            for rooms in ((0, 1, 2, 0, 1, 3), (3, 1, 2, 0, 1, 2), (0, 1, 2, 4, 1, 2)):
                plain = self.ask_alike(single, rooms)
                self.assertEqual((plain.many, has_spare(single, rooms)), (max(rooms) + 1, False))

    def test_rings_of_which_something_else_reads(self):
        # Rooms 0 and 1 change places, and what one of them holds is copied to others, too: no move more is needed.
        for sources, number in (((1, 0, 0), 3), ((1, 0, 1), 3), ((1, 0, 2), 3), ((1, 2, 0), 4), ((1, 0, 0, 2), 4),
                                ((1, 0, 0, 0), 4), ((1, 0, 3, 2), 6), ((1, 0, 2, 2), 4), ((1, 2, 0, 1), 4), ((0, 0, 0), 2),
                                ((1, 0, 3, 0), 4), ((2, 2, 1, 1), 4)):
            many = len(sources)
            joins = tuple((many + at, (source,)) for at, source in enumerate(sources))
            rows = tuple(("put", at, at) for at in range(many))
            told = tuple(("tell", many + at) for at in range(many))
            single = Single(2 * many, (), (((), rows, ("go", 1)), (joins, told, STOP)))
            for rooms in (tuple(range(many)) * 2, tuple(range(1, many + 1)) * 2):
                plain = self.ask_alike(single, rooms)
                self.assertEqual(len(plain.rows(0)), many + number, sources)

    def test_blocks_of_their_own(self):
        plain = self.ask_alike(TWICE, (0, 1, 2, 1))
        self.assertEqual((plain.end(0), plain.blocks[2:]), (("part", 0, 1, 2), (((("move", 1, 2),), ("go", 1)),)))
        plain = self.ask_alike(TWICE, (0, 1, 2, 2))
        self.assertEqual((plain.end(0), plain.blocks[2:]), (("part", 0, 2, 1), (((("move", 2, 1),), ("go", 1)),)))
        plain = self.ask_alike(TWICE, (0, 1, 2, 0))
        self.assertEqual((plain.end(0), plain.blocks[2:]), (("part", 0, 2, 3), (
            ((("move", 0, 1),), ("go", 1)), ((("move", 0, 2),), ("go", 1)))))
        # Without moves there are no such blocks.
        self.assertEqual(len(self.ask_alike(to_single(RING), colour(to_single(RING)).rooms)), 4)
        self.assertEqual(len(self.ask_alike(COUNTED, ROOMS)), 4)

    def test_no_moves_to_what_is_held(self):
        # Room 2 is held all along; only the rooms of the joins, and 3, can be written to.
        single = Single(8, (0, 1, 2), (
            ((), (("put", 3, 1), ("tell", 3)), ("go", 1)),
            (((4, (0, 5)), (5, (1, 4))), (("tell", 4), ("tell", 2), ("put", 6, 1), ("take", 7)), ("part", 7, 1, 2)),
            ((), (("tell", 2),), STOP)))
        for rooms in ((0, 1, 2, 3, 0, 1, 3, 4), (0, 1, 2, 3, 0, 1, 3, 3), (0, 1, 2, 3, 1, 0, 3, 3), (1, 0, 2, 3, 0, 1, 3, 3)):
            plain = self.ask_alike(single, rooms)
            self.assertFalse(has_spare(single, rooms))
            moved = [row[1] for block in range(len(plain)) for row in plain.rows(block) if row[0] == "move"]
            self.assertNotIn(2, moved)

    def test_rebuilt(self):
        for program in (LOOP, FORK, NEVER, RING, COUNT, *random_programs(81, 60, many=3, count=4, rows=3, handed=2, span=2)):
            plain, single = rebuilt(program), to_single(program)
            self.assertIs(type(plain), Program)
            self.assertTrue(tell_alike(program, plain))
            self.assertIn(plain.many - most_held(single), (0, 1))
            self.assertGreaterEqual(plain.many, program.handed)
            self.assertEqual((plain.handed, plain.span), (program.handed, program.span))
            self.assertEqual(rebuilt(program), plain)
        self.assertEqual(rebuilt(straight([("take", 4), ("tell", 4)], many=8)).many, 1)
        self.assertEqual(rebuilt(straight([], many=8, handed=3)).many, 3)

    def test_arguments_are_not_changed(self):
        before = (COUNTED.many, COUNTED.handed, COUNTED.blocks, COUNTED.span)
        one, other = to_plain(COUNTED, ROOMS), to_plain(COUNTED, ROOMS)
        self.assertEqual(one, other)
        self.assertEqual((COUNTED.many, COUNTED.handed, COUNTED.blocks, COUNTED.span), before)


class RefusedTest(RoomTest):
    def test_no_programs(self):
        for single in (*NO_PROGRAMS, LOOP):
            for rooms in ((0,), None, [], ROOMS):
                for ask in (to_plain, has_spare):
                    self.assertIsNone(self.refused(BadSingle, ask, single, rooms).part)
        for program in (*NO_PROGRAMS, SINGLE):
            self.assertIsNone(self.refused(BadProgram, rebuilt, program).part)

    def test_no_rooms(self):
        for rooms in NO_ROOMS:
            for ask in (to_plain, has_spare):
                self.refused(BadRooms, ask, COUNTED, rooms)

    def test_too_many_variables(self):
        single = straight_single(9)
        for ask in (to_plain, has_spare):
            self.refused(TooLarge, ask, single, tuple(range(9)))
            self.refused(TooLarge, ask, single, (8,) + (0,) * 8)
            # Rooms that do not fit are refused first.
            self.refused(BadRooms, ask, single, (9,) * 9)
            self.refused(BadRooms, ask, straight_single(48), tuple(range(47)))
            self.refused(TooLarge, ask, straight_single(48), tuple(range(48)))
        self.assertEqual(to_plain(single, (7,) + (0,) * 8).many, 8)
        # Two change places, and there is no room for one variable more.
        for many in (3, 7, 8):
            single, rooms = turning(many), tuple(range(many)) * 2
            if many == 8:
                self.refused(TooLarge, to_plain, single, rooms)
                self.refused(TooLarge, has_spare, single, rooms)
            else:
                self.assertEqual((to_plain(single, rooms).many, has_spare(single, rooms)), (many + 1, True))
                rooms = tuple(range(many)) + (many,) + tuple(range(1, many))
                self.assertEqual((to_plain(single, rooms).many, has_spare(single, rooms)), (many + 1, False))

    def test_too_many_rows(self):
        for many, rooms in ((12, (0,) * 12), (13, (0,) * 13), (24, (0,) * 24)):
            single = straight_single(many)
            if many == 12:
                self.assertEqual(len(to_plain(single, rooms).rows(0)), 12)
            else:
                self.refused(TooLarge, to_plain, single, rooms)
                self.refused(TooLarge, has_spare, single, rooms)
        # Moves from a room to itself are left out, so that there are few enough.
        rows = tuple(("move", one, one - 1) for one in range(1, 25))
        single = Single(25, (0,), (((), rows, STOP),))
        self.assertEqual(to_plain(single, (0,) * 25).rows(0), ())
        self.assertEqual(len(to_plain(single, (0,) * 13 + tuple(at % 2 for at in range(1, 13))).rows(0)), 12)
        self.refused(TooLarge, to_plain, single, (0,) * 12 + tuple(at % 2 for at in range(1, 14)))
        # The moves count, too: those at the beginning, and those behind the rows.
        rows = tuple(("tell", 0) for _ in range(11))
        single = Single(1, (0,), (((), rows + rows[:1], STOP),))
        self.assertEqual(len(to_plain(single, (0,)).rows(0)), 12)
        single = Single(2, (1,), (((), rows[:0] + (("put", 0, 1),) + rows, STOP),))
        self.assertEqual(len(to_plain(single, (0, 0)).rows(0)), 12)
        self.refused(TooLarge, to_plain, single, (0, 1))
        for count, large in ((11, False), (12, True)):
            single = Single(2, (0,), (
                ((), tuple(("tell", 0) for _ in range(count)), ("go", 1)), (((1, (0,)),), (("tell", 1),), STOP)))
            self.assertEqual(len(to_plain(single, (0, 0)).rows(0)), count)
            if large:
                self.refused(TooLarge, to_plain, single, (0, 1))
            else:
                self.assertEqual(len(to_plain(single, (0, 1)).rows(0)), 12)

    def test_too_many_blocks(self):
        for count in (14, 15, 16):
            blocks = [((), (), ("part", 0, 1, 1))]
            blocks += [(((3, (1, 2)),), (("tell", 3),), ("go", 2))]
            blocks += [((), (), ("go", at + 1)) for at in range(2, count - 1)] + [((), (), STOP)]
            single = Single(4, (0, 1, 2), tuple(blocks))
            for rooms, more in (((0, 1, 2, 1), 1), ((0, 1, 2, 0), 2)):
                if count + more > 16:
                    self.refused(TooLarge, to_plain, single, rooms)
                    self.refused(TooLarge, has_spare, single, rooms)
                else:
                    self.assertEqual(len(to_plain(single, rooms)), count + more)

    def test_too_large_to_be_made_single(self):
        self.refused(TooLarge, rebuilt, straight([("put", 0, 1)] * 47, many=2))
        # As many rows as may be, and those that put 0 into what is not handed in.
        for handed, large in ((2, False), (1, True)):
            program = straight([("put", 0, 1)] * 12, many=2, handed=handed)
            if large:
                self.refused(TooLarge, rebuilt, program)
            else:
                self.assertEqual(len(rebuilt(program).rows(0)), 12)


def straight_single(many):
    """A single program of one block, in two blocks if there are many rows, that puts a number into each variable."""
    rows = tuple(("put", one, 1) for one in range(many))
    if many <= 24:
        return Single(many, (), (((), rows, STOP),))
    return Single(many, (), (((), rows[:24], ("go", 1)), ((), rows[24:], STOP)))


def turning(many):
    """A single program with so many joins in a loop, in which the first two change places."""
    rows = tuple(("put", one, 1) for one in range(3, many))
    around = [many + 1, many] + list(range(many + 2, 2 * many))
    joins = tuple((many + one, (one, around[one])) for one in range(many))
    return Single(2 * many, (0, 1, 2), (((), rows, ("go", 1)), (joins, (), ("part", many + 2, 1, 2)), ((), (), STOP)))
