"""Point [9], folding."""

import random

from registerrooms.errors import BadProgram
from registerrooms.folding import Folded, Tangled, fold, is_foldable, what_is_left
from registerrooms.programs import Program
from registerrooms.roads import heads
from tests.samples import FORK, LOOP, NEVER, NO_PROGRAMS, RING, SINGLE, STOP, RoomTest, made_single, random_programs

# An edge of a block to itself, and a follower of block 0 to which edges lead from several blocks.
SELF = Program(1, (((), ("part", 0, 1, 3)), ((), ("part", 0, 1, 2)), ((), ("part", 0, 3, 1)), ((), STOP)))
# A ring with two ways in, behind a loop.
BEHIND = Program(1, (
    ((), ("go", 1)), ((), ("part", 0, 1, 2)), ((), ("part", 0, 3, 4)), ((), ("part", 0, 4, 5)),
    ((), ("part", 0, 3, 5)), ((), STOP)))
NESTED = Program(1, (
    ((), ("go", 1)), ((), ("part", 0, 2, 6)), ((), ("part", 0, 3, 4)), ((), ("go", 5)), ((), ("go", 5)),
    ((), ("part", 0, 1, 2)), ((), STOP)))
# A ring of three blocks, with two ways in.
THREE = Program(1, (
    ((), ("part", 0, 1, 3)), ((), ("go", 2)), ((), ("part", 0, 3, 4)), ((), ("go", 1)), ((), STOP)))


def left_over(program, rng):
    """What is left when no block can be taken in any more, in any order."""
    links = {block: set(program.followers(block)) - {block} for block in range(len(program))}
    while True:
        homes = {block: [other for other in links if block in links[other]] for block in links if block != 0}
        ready = [block for block in homes if len(homes[block]) == 1]
        if not ready:
            return {block: sorted(links[block]) for block in sorted(links)}
        block = rng.choice(ready)
        home = homes[block][0]
        links[home] = (links[home] | links.pop(block)) - {block, home}


def rings(program):
    """All rings of two or more different blocks."""
    found, waiting = [], [(block,) for block in range(len(program))]
    while waiting:
        road = waiting.pop()
        for other in set(program.followers(road[-1])):
            if other == road[0] and len(road) > 1:
                found.append(road)
            if other not in road:
                waiting.append(road + (other,))
    return found


class FoldTest(RoomTest):
    def test_example(self):
        loop = Program(1, (((), ('go', 1)), ((), ('part', 0, 1, 2)), ((), ('stop',))))
        ring = Program(1, (((), ('part', 0, 1, 2)), ((), ('part', 0, 2, 3)), ((), ('part', 0, 1, 3)), ((), ('stop',))))
        found = [is_foldable(loop), what_is_left(loop), what_is_left(ring),
                 Tangled((1, 2), {1: (0, 2), 2: (0, 1)}).shows(ring), fold(loop).shows(loop)]
        self.assertEqual(found, [True, {0: []}, {0: [1, 2], 1: [2, 3], 2: [1, 3], 3: []}, True, True])

    def test_programs_that_fold(self):
        for program in (LOOP, FORK, NEVER, SINGLE, SELF, NESTED, Program(1, (((), STOP),))):
            found = fold(program)
            self.assertIsInstance(found, Folded)
            self.assertTrue(found.shows(program))
            self.assertIs(is_foldable(program), True)
            self.assertEqual(what_is_left(program), {0: []})
        self.assertEqual(fold(Program(1, (((), STOP),))).order, [])

    def test_programs_that_do_not_fold(self):
        for program, left in (
                (RING, {0: [1, 2], 1: [2, 3], 2: [1, 3], 3: []}), (BEHIND, {0: [3, 4], 3: [4, 5], 4: [3, 5], 5: []}),
                (THREE, {0: [1, 3], 1: [3], 3: [1]})):
            for some in (program, made_single(program)):
                found = fold(some)
                self.assertIsInstance(found, Tangled)
                self.assertTrue(found.shows(some))
                self.assertIs(is_foldable(some), False)
                self.assertEqual(what_is_left(some), left)

    def test_any_programs(self):
        rng = random.Random(11)
        kinds = []
        for program in random_programs(12, 300, count=6, rows=0):
            found = fold(program)
            kinds.append(type(found))
            self.assertTrue(found.shows(program))
            left = what_is_left(program)
            self.assertEqual(list(left), sorted(left))
            self.assertEqual(left, left_over(program, rng))
            self.assertEqual(left, left_over(program, rng))
            over = [ring for ring in rings(program)
                    if not any(all(one in heads(program, other) for other in ring) for one in ring)]
            self.assertIs(is_foldable(program), not over)
            self.assertIs(isinstance(found, Folded), not over)
            if over:
                self.assertIn(found.ring, over)
        self.assertGreater(kinds.count(Tangled), 20)
        self.assertGreater(kinds.count(Folded), 20)

    def test_what_is_returned_is_new(self):
        fold(LOOP).order.clear()
        fold(RING).roads.clear()
        left = what_is_left(RING)
        left[0].clear()
        left.clear()
        self.assertTrue(fold(LOOP).shows(LOOP))
        self.assertTrue(fold(RING).shows(RING))
        self.assertEqual(what_is_left(RING), {0: [1, 2], 1: [2, 3], 2: [1, 3], 3: []})

    def test_no_programs(self):
        for program in NO_PROGRAMS:
            for ask in (fold, is_foldable, what_is_left, Folded([]).shows, Tangled((), {}).shows):
                self.assertIsNone(self.refused(BadProgram, ask, program).part)


class FoldedTest(RoomTest):
    def test_orders(self):
        for order, right in (
                ([1, 2], True), ([2, 1], True), ([1], False), ([2], False), ([], False), ([1, 1], False),
                ([1, 2, 2], False), ([1, 2, 0], False), ([0, 1, 2], False), ([1, 2, 3], False), ([1, True], False),
                ([True, 2], False), ([1, None], False), ([-1, 2], False), ([1, "2"], False)):
            self.assertIs(Folded(order).shows(LOOP), right, order)

    def test_too_early(self):
        self.assertTrue(Folded([1, 2, 3]).shows(FORK))
        self.assertTrue(Folded([2, 1, 3]).shows(FORK))
        for order in ([3, 1, 2], [1, 3, 2], [2, 3, 1]):
            self.assertFalse(Folded(order).shows(FORK), order)
        self.assertTrue(Folded([2, 1, 3]).shows(SELF))
        self.assertFalse(Folded([1, 2, 3]).shows(SELF))

    def test_programs_that_do_not_fold(self):
        for order in ([], [1, 2, 3], [3, 2, 1], [2, 1, 3]):
            self.assertFalse(Folded(order).shows(RING))

    def test_current_attributes(self):
        order = [1, 2]
        found = Folded(order)
        order.clear()
        self.assertEqual(found.order, [1, 2])
        self.assertTrue(found.shows(LOOP))
        found.order.pop()
        self.assertFalse(found.shows(LOOP))
        found.order = [2, 1]
        self.assertTrue(found.shows(LOOP))

    def test_equality(self):
        self.assertEqual(Folded([1, 2]), Folded((1, 2)))
        self.all_different(Folded([1, 2]), Folded([2, 1]), Folded([]), Tangled((1, 2), {}), [1, 2], None)


class TangledTest(RoomTest):
    def test_rings(self):
        roads = {1: (0, 2), 2: (0, 1)}
        for ring, right in (
                ((1, 2), True), ((2, 1), True), ((1,), False), ((), False), ((1, 2, 1, 2), False), ((1, 1), False),
                ((1, 3), False), ((0, 1), False), ((1, 2, 3), False), ((True, 2), False), ((1, 4), False),
                ((1, None), False), ((1, -2), False), ((2, 2), False)):
            self.assertIs(Tangled(ring, roads).shows(RING), right, ring)

    def test_rings_that_do_not_close(self):
        roads = {1: (0, 3), 2: (0, 1), 3: (0, 1)}
        self.assertTrue(Tangled((1, 2, 3), roads).shows(THREE))
        self.assertTrue(Tangled((2, 3, 1), roads).shows(THREE))
        self.assertFalse(Tangled((1, 3, 2), roads).shows(THREE))
        self.assertFalse(Tangled((1, 2), {1: (0, 3), 2: (0, 1)}).shows(THREE))
        self.assertFalse(Tangled((2, 3), {2: (0, 3), 3: (0, 1, 2)}).shows(THREE))
        for ring in ((1, 2), (2, 3), (1, 3)):
            self.assertFalse(Tangled(ring, {block: roads[block] for block in ring}).shows(THREE))

    def test_rings_of_one_block(self):
        self.assertFalse(Tangled((1,), {1: (0,)}).shows(SELF))
        self.assertFalse(Tangled((1,), {1: (0, 1)}).shows(NEVER))
        for program in (RING, SELF):
            self.assertFalse(Tangled((), {}).shows(program))

    def test_roads(self):
        for road, right in (
                ((0, 2), True), ((0, 2, 1), False), ((2,), False), ((0,), False), ((0, 1, 2), False),
                ((0, 2, 3), False), ((), False), ((0, 3), False), ((0, 1), False), ((False, 2), False),
                ((0, 2, 2), False), ((0, 3, 2), False), ((0, None), False)):
            self.assertIs(Tangled((1, 2), {1: road, 2: (0, 1)}).shows(RING), right, road)
        self.assertTrue(Tangled((3, 4), {3: (0, 1, 1, 1, 2, 4), 4: (0, 1, 2, 3)}).shows(BEHIND))
        self.assertFalse(Tangled((3, 4), {3: (0, 1, 2, 4, 5), 4: (0, 1, 2, 3)}).shows(BEHIND))
        self.assertFalse(Tangled((3, 4), {3: (1, 2, 4), 4: (0, 1, 2, 3)}).shows(BEHIND))

    def test_keys(self):
        for roads in (
                {}, {1: (0, 2)}, {2: (0, 1)}, {1: (0, 2), 2: (0, 1), 3: (0, 1)}, {1: (0, 2), 3: (0, 1)},
                {True: (0, 2), 2: (0, 1)}, {1: (0, 2), 2: (0, 1), 0: (0, 1)}, {1: (0, 2), None: (0, 1)}):
            self.assertFalse(Tangled((1, 2), roads).shows(RING), roads)
        self.assertTrue(Tangled((1, 2), {2: (0, 1), 1: (0, 2)}).shows(RING))

    def test_programs_that_fold(self):
        loop = Program(1, (((), ("go", 1)), ((), ("go", 2)), ((), ("part", 0, 1, 3)), ((), STOP)))
        self.assertFalse(Tangled((1, 2), {1: (0, 1, 2), 2: (0, 1)}).shows(loop))
        self.assertFalse(Tangled((1, 2), {1: (0, 2), 2: (0, 1)}).shows(loop))

    def test_current_attributes(self):
        roads = {1: (0, 2), 2: (0, 1)}
        found = Tangled((1, 2), roads)
        roads.clear()
        self.assertEqual((found.ring, found.roads), ((1, 2), {1: (0, 2), 2: (0, 1)}))
        self.assertTrue(found.shows(RING))
        del found.roads[1]
        self.assertFalse(found.shows(RING))
        found.roads = {1: (0, 2), 2: (0, 1)}
        self.assertTrue(found.shows(RING))
        found.ring = (2, 3)
        self.assertFalse(found.shows(RING))

    def test_equality(self):
        roads = {1: (0, 2), 2: (0, 1)}
        self.assertEqual(Tangled((1, 2), roads), Tangled((1, 2), {2: (0, 1), 1: (0, 2)}))
        self.all_different(Tangled((1, 2), roads), Tangled((2, 1), roads), Tangled((1, 2), {}), Folded([1, 2]), None)
