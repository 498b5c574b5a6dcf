"""Point [7], blocks that head others."""

from registerrooms.errors import BadBlock, BadProgram
from registerrooms.programs import Program
from registerrooms.roads import Avoids, Heads, head_of, heads, judge_heads
from tests.samples import FORK, LOOP, NO_PROGRAMS, RING, SINGLE, STOP, RoomTest, made_single, random_programs

# A branch within a loop, whose two ways come together again.
NESTED = Program(1, (
    ((), ("go", 1)), ((), ("part", 0, 2, 6)), ((), ("part", 0, 3, 4)), ((), ("go", 5)), ((), ("go", 5)),
    ((), ("part", 0, 1, 2)), ((), STOP)))
PROGRAMS = (LOOP, FORK, RING, SINGLE, NESTED)


def all_simple_roads(program, block):
    """All roads to a block on which no block stands twice."""
    found, waiting = [], [(0,)]
    while waiting:
        road = waiting.pop()
        if road[-1] == block:
            found.append(road)
        waiting += [road + (other,) for other in set(program.followers(road[-1])) if other not in road]
    return found


class HeadsOfTest(RoomTest):
    def test_example(self):
        loop = Program(2, (((('take', 0), ('put', 1, 1)), ('go', 1)),
                           ((('tell', 0), ('sub', 0, 0, 1)), ('part', 0, 1, 2)), ((), ('stop',))))
        fork = Program(1, (((), ('part', 0, 1, 2)), ((), ('go', 3)), ((), ('go', 3)), ((), ('stop',))))
        found = [heads(loop, 2), head_of(loop, 2), heads(fork, 3), Avoids((0, 2, 3)).shows(fork, 1, 3),
                 judge_heads(loop, 1, 2).shows(loop, 1, 2)]
        self.assertEqual(found, [[0, 1, 2], 1, [0, 3], True, True])

    def test_heads(self):
        self.assertEqual([heads(NESTED, block) for block in range(7)], [
            [0], [0, 1], [0, 1, 2], [0, 1, 2, 3], [0, 1, 2, 4], [0, 1, 2, 5], [0, 1, 6]])
        self.assertEqual([heads(RING, block) for block in range(4)], [[0], [0, 1], [0, 2], [0, 3]])
        self.assertEqual([heads(SINGLE, block) for block in range(3)], [[0], [0, 1], [0, 1, 2]])

    def test_nearest(self):
        self.assertEqual([head_of(NESTED, block) for block in range(7)], [None, 0, 1, 2, 2, 2, 1])
        self.assertEqual([head_of(RING, block) for block in range(4)], [None, 0, 0, 0])
        self.assertIsNone(head_of(Program(1, (((), STOP),)), 0))

    def test_the_nearest_need_not_have_the_greatest_number(self):
        program = Program(1, (((), ("go", 3)), ((), ("go", 2)), ((), STOP), ((), ("go", 1))))
        self.assertEqual(heads(program, 2), [0, 1, 2, 3])
        self.assertEqual([head_of(program, block) for block in range(4)], [None, 3, 1, 0])

    def test_any_programs(self):
        for program in random_programs(8, 80, count=6, rows=1):
            for block in range(6):
                roads = all_simple_roads(program, block)
                wanted = [one for one in range(6) if all(one in road for road in roads)]
                self.assertEqual(heads(program, block), wanted)
                near = head_of(program, block)
                if block == 0:
                    self.assertIsNone(near)
                else:
                    self.assertEqual(heads(program, near), [one for one in wanted if one != block])

    def test_what_is_returned_is_new(self):
        heads(LOOP, 2).clear()
        self.assertEqual(heads(LOOP, 2), [0, 1, 2])

    def test_errors(self):
        for ask in (heads, head_of):
            for program in NO_PROGRAMS:
                self.assertIsNone(self.refused(BadProgram, ask, program, None).part)
            for program in (LOOP, SINGLE):
                for block in (-1, 3, True, False, None, "0", (0,), [0]):
                    self.refused(BadBlock, ask, program, block)


class JudgeTest(RoomTest):
    def test_all_pairs(self):
        for program in PROGRAMS + tuple(random_programs(9, 25, count=6, rows=1)):
            for one in range(len(program)):
                for other in range(len(program)):
                    found = judge_heads(program, one, other)
                    self.assertIsInstance(found, Heads if one in heads(program, other) else Avoids)
                    self.assertTrue(found.shows(program, one, other))

    def test_single_programs(self):
        for one in range(7):
            for other in range(7):
                self.assertEqual(judge_heads(made_single(NESTED), one, other), judge_heads(NESTED, one, other))

    def test_what_shows_one_thing_does_not_show_the_other(self):
        for program in PROGRAMS:
            for one in range(len(program)):
                for other in range(len(program)):
                    found = judge_heads(program, one, other)
                    if isinstance(found, Avoids):
                        self.assertFalse(Heads(list(range(len(program)))).shows(program, one, other))
                        self.assertFalse(Heads([0]).shows(program, one, other))
                        self.assertFalse(Heads([]).shows(program, one, other))
                    else:
                        for road in all_simple_roads(program, other):
                            self.assertFalse(Avoids(road).shows(program, one, other))

    def test_a_block_and_itself(self):
        for block in range(7):
            for closed in ([], [block], [0, 1], [6, 6]):
                self.assertTrue(Heads(closed).shows(NESTED, block, block))
            self.assertFalse(Avoids((0,)).shows(NESTED, block, block))
            self.assertFalse(Heads([7]).shows(NESTED, block, block))

    def test_block_0(self):
        for block in range(7):
            self.assertTrue(Heads([]).shows(NESTED, 0, block))
            self.assertTrue(Heads([block]).shows(NESTED, 0, block))
            self.assertFalse(Heads([-1]).shows(NESTED, 0, block))
            self.assertEqual(judge_heads(NESTED, block, 0), Avoids((0,)) if block else Heads([]))
        self.assertTrue(Avoids((0,)).shows(NESTED, 3, 0))

    def test_closed(self):
        for closed, right in (
                ([0, 1, 6], True), ([6, 0, 1], True), ([0, 1, 6, 0, 6], True), ([1, 6], False), ([0, 6], False),
                ([0, 1], False), ([0, 1, 6, 2], False), ([0, 1, 6, 5], False), ([0, 1, 6, 3], False), ([], False),
                ([0, 1, 6, 7], False), ([0, 1, 6, -1], False), ([0, 1, 6, True], False), ([0, True, 6], False),
                ([False, 1, 6], False), ([0, 1, 6, None], False), ([0, 1, 6, "0"], False)):
            self.assertIs(Heads(closed).shows(NESTED, 2, 5), right, closed)

    def test_closed_may_have_more_than_can_be_come_to(self):
        fork = Program(1, (((), ("go", 1)), ((), ("part", 0, 2, 3)), ((), STOP), ((), STOP)))
        self.assertTrue(Heads([0]).shows(fork, 1, 2))
        self.assertTrue(Heads([0, 3]).shows(fork, 1, 2))
        self.assertFalse(Heads([0, 2]).shows(fork, 1, 2))
        self.assertFalse(Heads([0, 1]).shows(fork, 1, 2))

    def test_roads(self):
        for road, right in (
                ((0, 1, 2, 4, 5), True), ((0, 1, 2, 4, 5, 2, 4, 5), True), ((0, 1, 2, 3, 5), False),
                ((0, 1, 2, 4, 5, 2, 3, 5), False), ((1, 2, 4, 5), False), ((0, 1, 2, 4), False), ((0, 2, 4, 5), False),
                ((0, 1, 2, 5), False), ((), False), ((5,), False), ((0,), False), ((0, 1, 2, 4, 5, 1), False),
                ((0, True, 2, 4, 5), False), ((False, 1, 2, 4, 5), False), ((0, 1, 2, 4, 7, 5), False),
                ((0, 1, 2, 4, None, 5), False), ((0, 1, -5, 4, 5), False)):
            self.assertIs(Avoids(road).shows(NESTED, 3, 5), right, road)

    def test_errors(self):
        for ask in (judge_heads, Heads([]).shows, Avoids((0,)).shows):
            for program in NO_PROGRAMS:
                self.assertIsNone(self.refused(BadProgram, ask, program, None, None).part)
            for program in (LOOP, SINGLE):
                for block in (-1, 3, True, None, "0", (0,)):
                    self.refused(BadBlock, ask, program, block, 0)
                    self.refused(BadBlock, ask, program, 0, block)

    def test_current_attributes(self):
        closed = [0, 1, 6]
        found = Heads(closed)
        closed.clear()
        self.assertEqual(found.closed, [0, 1, 6])
        self.assertTrue(found.shows(NESTED, 2, 5))
        found.closed.pop()
        self.assertFalse(found.shows(NESTED, 2, 5))
        found.closed = [6, 1, 0]
        self.assertTrue(found.shows(NESTED, 2, 5))
        avoids = Avoids((0, 1, 2, 4, 5))
        avoids.road = (0, 1, 2, 3, 5)
        self.assertFalse(avoids.shows(NESTED, 3, 5))
        self.assertTrue(avoids.shows(NESTED, 4, 5))

    def test_what_is_returned_is_new(self):
        judge_heads(NESTED, 2, 5).closed.clear()
        self.assertTrue(judge_heads(NESTED, 2, 5).shows(NESTED, 2, 5))

    def test_equality(self):
        self.assertEqual(Heads([0, 1]), Heads((0, 1)))
        self.assertEqual(Avoids((0, 1)), Avoids((0, 1)))
        self.all_different(Heads([0, 1]), Heads([1, 0]), Heads([]), Avoids((0, 1)), Avoids(()), [0, 1], (0, 1), None)
