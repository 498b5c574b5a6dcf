"""Point [19], which blocks come for sure, and which edges govern a block."""

import itertools
import random

from registerrooms.errors import BadBlock, BadEdge, BadProgram, NoWayOut
from registerrooms.governing import Free, Governs, by_chains, governors, judge_edge, nearest, sure
from registerrooms.making import to_single
from registerrooms.programs import Program
from registerrooms.single import Single
from tests.samples import (
    FORK, LOOP, NEVER, NO_PROGRAMS, RING, SINGLE, STOP, RoomTest, made_single, random_program, targets,
)

COUNT = Program(2, (
    ((("put", 0, 3),), ("go", 1)), ((), ("part", 0, 2, 3)), ((("sub", 0, 0, 1),), ("go", 1)),
    ((("tell", 0),), STOP)))
# A branch within a loop, and a stop within it.
NESTED = Program(1, (
    ((), ("go", 1)), ((), ("part", 0, 2, 6)), ((), ("part", 0, 3, 4)), ((), ("go", 5)), ((), ("part", 0, 5, 7)),
    ((), ("go", 1)), ((), STOP), ((), STOP)))
# Both ways lead into one block, and an edge from a block to itself.
TWICE = Program(1, (((), ("part", 0, 1, 1)), ((), ("part", 0, 1, 2)), ((), STOP)))
ONE = Program(1, (((), STOP),))
# From blocks 2 and 3 no road leads to a stop; from the others one does.
SHUT = Program(1, (((), ("part", 0, 1, 2)), ((), STOP), ((), ("go", 3)), ((), ("part", 0, 2, 3))))
PROGRAMS = (COUNT, NESTED, TWICE, ONE, LOOP, FORK, RING, SINGLE, to_single(COUNT), made_single(NESTED))
NO_BLOCKS = (-1, 4, 16, True, False, None, "1", (1,), [1])
NO_EDGES = (
    None, 0, "10", (), (0,), (1,), [1, 0], [0, 0], (1, 0, 0), (1, 2), (0, 1), (3, 0), (4, 0), (-1, 0), (1, -1), (True, 0),
    (1, False), (1, True), (0, False), (0, None), (None, 0), ("1", 0), ((1, 0),), {1: 0})


def all_edges(program):
    """The list of all pairs of an edge and its target."""
    return [((block, way), target) for block in range(len(program))
            for way, target in enumerate(targets(program.end(block)))]


def roads_out(program, block, road=()):
    """All roads from a block to one that stops on which no block is twice."""
    road = (*road, block)
    if program.end(block) == STOP:
        return [road]
    return [some for target in targets(program.end(block)) if target not in road
            for some in roads_out(program, target, road)]


def walked(program):
    """The list with, for each block, the set of those that are on all such roads."""
    return [set.intersection(*map(set, roads_out(program, block))) for block in range(len(program))]


def are_shut(program):
    """The list of the blocks from which no road leads to a stop."""
    return [block for block in range(len(program)) if not roads_out(program, block)]


def governing(program, edge, block):
    """Whether an edge governs a block, by the words of the document."""
    found, target = walked(program), dict(all_edges(program))[edge]
    return block in found[target] and (block not in found[edge[0]] or block == edge[0])


def is_closed(program, closed, first, block):
    """Whether blocks that do not stop, with the first one unless it is the block, have no other followers."""
    if type(closed) is not tuple or not all(type(one) is int and 0 <= one < len(program) for one in closed):
        return False
    if block in closed or (first != block and first not in closed):
        return False
    if any(program.end(one) == STOP for one in closed):
        return False
    return all(one in (*closed, block) for some in closed for one in targets(program.end(some)))


def is_road(program, road, first, block):
    """Whether a road leads from one block to a stop, without the block."""
    if type(road) is not tuple or not all(type(one) is int and 0 <= one < len(program) for one in road):
        return False
    if not road or road[0] != first or program.end(road[-1]) != STOP or block in road:
        return False
    return all(two in targets(program.end(one)) for one, two in zip(road, road[1:]))


def is_right(paper, program, edge, block):
    """Whether a paper is right, by the words of the document."""
    target = dict(all_edges(program))[edge]
    if type(paper) is Governs:
        if not is_closed(program, paper.closed, target, block):
            return False
        return paper.road is None if edge[0] == block else is_road(program, paper.road, edge[0], block)
    if (paper.closed is None) == (paper.road is None):
        return False
    if paper.closed is None:
        return is_road(program, paper.road, target, block)
    return edge[0] != block and is_closed(program, paper.closed, edge[0], block)


def programs_with_roads(seed, times, **named):
    """So many programs from each of whose blocks a road leads to a stop, plain and single ones."""
    rng = random.Random(seed)
    found = []
    while len(found) < times:
        program = random_program(rng, rows=0, **named)
        if not are_shut(program):
            found.append(program if len(found) % 3 else made_single(program))
    return found


class GoverningTest(RoomTest):
    def ask(self, program):
        """Ask what governs and comes for sure against an own walk over all roads."""
        found, chains = walked(program), by_chains(program)
        edges = all_edges(program)
        for block in range(len(program)):
            self.assertEqual(sure(program, block), sorted(found[block]))
            others = found[block] - {block}
            near = [one for one in others if all(other in found[one] for other in others)]
            self.assertEqual(len(near), 1 if others else 0)
            self.assertEqual(nearest(program, block), near[0] if near else None)
            goal = [edge for edge, _ in edges if governing(program, edge, block)]
            self.assertEqual(governors(program, block), goal, (program.blocks, block))
            for edge, _ in edges:
                paper = judge_edge(program, edge, block)
                self.assertIs(paper.shows(program, edge, block), True)
                self.assertTrue(is_right(paper, program, edge, block))
                self.assertIs(type(paper), Governs if edge in goal else Free)
        self.assertEqual(list(chains), [edge for edge, _ in edges])
        for edge, blocks in chains.items():
            self.assertEqual(blocks, [block for block in range(len(program)) if edge in governors(program, block)])

    def test_examples(self):
        self.assertEqual(
            [[sure(COUNT, block) for block in (0, 2)], [governors(COUNT, block) for block in range(4)],
             [nearest(COUNT, block) for block in range(4)], by_chains(COUNT)[(1, 0)],
             Governs((), (1, 3)).shows(COUNT, (1, 0), 2), Free((3,), None).shows(COUNT, (1, 1), 2)],
            [[[0, 1, 3], [1, 2, 3]], [[], [(1, 0)], [(1, 0)], []], [1, 3, 1, None], [1, 2], True, True])

    def test_ordinary(self):
        for program in PROGRAMS:
            self.ask(program)
        self.assertEqual((sure(ONE, 0), nearest(ONE, 0), governors(ONE, 0), by_chains(ONE)), ([0], None, [], {}))
        self.assertEqual(by_chains(TWICE), {(0, 0): [], (0, 1): [], (1, 0): [1], (1, 1): []})
        self.assertEqual(
            by_chains(NESTED),
            {(0, 0): [], (1, 0): [2], (1, 1): [6], (2, 0): [1, 3, 5], (2, 1): [4], (3, 0): [], (4, 0): [1, 5],
             (4, 1): [7], (5, 0): []})
        self.assertEqual([nearest(NESTED, block) for block in range(8)], [1, None, None, 5, None, 1, None, None])
        self.assertEqual([sure(NESTED, block) for block in (3, 4, 7)], [[1, 3, 5], [4], [7]])

    def test_generated(self):
        for count in (2, 3, 4, 5, 6, 7):
            for program in programs_with_roads(31 + count, 25, count=count, many=1):
                self.ask(program)

    def test_plain_and_single_alike(self):
        for program in (COUNT, NESTED, TWICE, RING):
            single = made_single(program)
            self.assertEqual(by_chains(program), by_chains(single))
            for edge, _ in all_edges(program):
                for block in range(len(program)):
                    paper = judge_edge(program, edge, block)
                    self.assertEqual(paper, judge_edge(single, edge, block))
                    self.assertTrue(paper.shows(single, edge, block))

    def test_new_each_time(self):
        for ask in (by_chains, lambda program: sure(program, 1), lambda program: governors(program, 1)):
            goal = ask(COUNT)
            self.assertIsNot(ask(COUNT), ask(COUNT))
            ask(COUNT).clear()
            self.assertEqual(ask(COUNT), goal)
        by_chains(COUNT)[(1, 0)].clear()
        self.assertEqual(by_chains(COUNT)[(1, 0)], [1, 2])
        self.assertIsNot(judge_edge(COUNT, (1, 0), 2), judge_edge(COUNT, (1, 0), 2))


class RefusedTest(RoomTest):
    def asks(self, program, edge, block):
        """All that is asked for an edge and a block."""
        judged = (judge_edge, Governs((), None).shows, Free((), None).shows)
        return ([(by_chains, program)] + [(ask, program, block) for ask in (sure, nearest, governors)]
                + [(ask, program, edge, block) for ask in judged])

    def test_no_programs(self):
        for program in NO_PROGRAMS:
            for edge, block in (((0, 0), 0), (None, None), ([], True)):
                for ask in self.asks(program, edge, block):
                    self.assertIsNone(self.refused(BadProgram, *ask).part)

    def test_no_way_out(self):
        single = made_single(SHUT)
        for program, least in ((SHUT, 2), (single, 2), (NEVER, 0), (made_single(NEVER), 0)):
            self.assertEqual(are_shut(program)[0], least)
            for edge, block in (((0, 0), 0), (None, 0), ((0, 0), None), ([], -1)):
                for ask in self.asks(program, edge, block):
                    self.assertEqual(self.refused(NoWayOut, *ask).block, least)

    def test_generated_without_roads(self):
        rng = random.Random(41)
        for _ in range(150):
            program = random_program(rng, rows=0, many=1, count=rng.randint(1, 6))
            shut = are_shut(program)
            if shut:
                self.assertEqual(self.refused(NoWayOut, by_chains, program).block, shut[0])
            else:
                self.assertEqual(len(by_chains(program)), len(all_edges(program)))

    def test_no_edges(self):
        for edge in NO_EDGES:
            for block in (0, None, 4, True):
                for ask in self.asks(COUNT, edge, block)[4:]:
                    self.refused(BadEdge, *ask)

    def test_no_blocks(self):
        for block in NO_BLOCKS:
            for ask in self.asks(COUNT, (1, 1), block)[1:]:
                self.refused(BadBlock, *ask)


class PapersTest(RoomTest):
    def ask(self, paper, goal, program, edge, block):
        """Ask whether a paper shows, and whether it ought to."""
        self.assertIs(paper.shows(program, edge, block), goal, (vars(paper), edge, block))
        self.assertIs(is_right(paper, program, edge, block), goal)

    def test_governs(self):
        for closed, road, goal in (
                ((), (1, 3), True), ((), (1, 3, 3), False), ((2,), (1, 3), False), ((3,), (1, 3), False),
                ((1,), (1, 3), False), ((), None, False), ((), (1, 2, 1, 3), False), ((), (1,), False), ((), (3,), False),
                ((), (0, 1, 3), False), ((), (), False), ((4,), (1, 3), False), ((-1,), (1, 3), False),
                ((True,), (1, 3), False), ((), (1, 4), False), ((), (True, 3), False), (None, (1, 3), False),
                ((), (1, -1), False), ((None,), (1, 3), False)):
            self.ask(Governs(closed, road), goal, COUNT, (1, 0), 2)

    def test_closed(self):
        # Edge (2, 0) leads to block 3, behind which block 5 comes for sure, and not behind block 2.
        for closed, goal in (
                ((3,), True), ((3, 3), True), ((), False), ((5,), False), ((3, 5), False), ((3, 1), False), ((3, 4), False),
                ((3, 2), False), ((3, 6), False), ((3, 7), False), ((3, 0), False), ((0,), False), ((3, 8), False)):
            self.ask(Governs(closed, (2, 4, 7)), goal, NESTED, (2, 0), 5)
            self.ask(Governs(closed, None), False, NESTED, (2, 0), 5)
            self.ask(Governs(closed, (2, 3, 5, 1, 6)), False, NESTED, (2, 0), 5)
        for closed, goal in (((3, 5), True), ((5, 3), True), ((3,), False), ((3, 5, 1), False), ((5,), False)):
            self.ask(Governs(closed, (2, 4, 7)), goal, NESTED, (2, 0), 1)
        # All blocks that are closed with another one may be in it, too.
        self.ask(Governs((3, 5, 0), (2, 4, 7)), True, NESTED, (2, 0), 1)

    def test_where_the_edge_begins(self):
        # The edge begins at the governed block: there is no road.
        for closed, road, goal in (
                ((2,), None, True), ((2,), (1, 3), False), ((2,), (3,), False), ((2,), (), False), ((), None, False),
                ((2, 1), None, False), ((2, 0), None, True), ((2, 3), None, False)):
            self.ask(Governs(closed, road), goal, COUNT, (1, 0), 1)
        self.ask(Governs((), None), True, TWICE, (1, 0), 1)
        self.ask(Governs((), (1, 2)), False, TWICE, (1, 0), 1)
        self.ask(Governs((1,), None), False, TWICE, (1, 0), 1)
        for paper in (Free(None, ()), Free(None, (2,)), Free(None, (1,)), Free((2, 1, 3), None), Free(None, None)):
            self.ask(paper, False, COUNT, (1, 0), 1)

    def test_free_by_a_road(self):
        for road, goal in (
                ((3,), True), ((), False), ((2, 1, 3), False), ((1, 3), False), ((3, 3), False), ((0,), False), ((4,), False),
                ((-1,), False), ((True,), False), (None, False)):
            self.ask(Free(road, None), goal, COUNT, (1, 1), 2)
        for road, goal in (((5, 1, 6), True), ((5, 1, 2, 4, 7), True), ((5, 1, 2, 4, 5, 1, 6), True), ((5, 1, 2, 3), False),
                           ((5, 1, 2), False), ((1, 6), False), ((5, 6), False), ((4, 5, 1, 6), False)):
            self.ask(Free(road, None), goal, NESTED, (4, 0), 3)
        self.ask(Free((5, 1, 2, 4, 7), None), False, NESTED, (4, 0), 4)

    def test_free_by_blocks(self):
        # Behind both ends of edge (3, 0) block 1 comes for sure.
        for closed, goal in (
                ((3, 5), True), ((5, 3), True), ((3,), False), ((5,), False), ((), False), ((1, 3, 5), False),
                ((3, 5, 6), False), ((3, 5, 0), True), ((3, 5, 4), False), ((3, 5, 8), False), ((3, True), False)):
            self.ask(Free(None, closed), goal, NESTED, (3, 0), 1)
            self.ask(Free((5, 1, 6), closed), False, NESTED, (3, 0), 1)
        self.ask(Free(None, None), False, NESTED, (3, 0), 1)
        # The block to which the edge leads is not enough: from the other one a road leads out without the block.
        self.ask(Free(None, (5,)), False, NESTED, (4, 0), 1)
        self.ask(Free(None, (5, 4)), False, NESTED, (4, 0), 1)
        self.ask(Governs((5,), (4, 7)), True, NESTED, (4, 0), 1)
        self.ask(Free(None, (0,)), True, COUNT, (0, 0), 1)
        self.ask(Free(None, ()), False, COUNT, (0, 0), 1)

    def test_negative_blocks(self):
        # Negative numbers are no blocks, and do not stand for the last ones.
        program = Program(1, (((), ("part", 0, 1, 2)), ((), STOP), ((), ("go", 1))))
        self.ask(Free(None, (0, 2)), True, program, (0, 1), 1)
        self.ask(Free(None, (0, 2, -1)), False, program, (0, 1), 1)
        self.ask(Free(None, (0, -1)), False, program, (0, 1), 1)
        self.ask(Governs((), (0, 1)), True, program, (0, 1), 2)
        self.ask(Governs((), (0, -2)), False, program, (0, 1), 2)
        self.ask(Free((2, 1), None), True, program, (0, 1), 0)
        self.ask(Free((-1, 1), None), False, program, (0, 1), 0)
        for edge in ((-1, 0), (2, -1), (-3, 0), (0, -1)):
            self.refused(BadEdge, judge_edge, program, edge, 0)
        for block in (-1, -3):
            self.refused(BadBlock, judge_edge, program, (0, 0), block)

    def test_all_small_papers(self):
        for program in (COUNT, TWICE, FORK):
            blocks = range(len(program))
            roads = [road for length in range(4) for road in itertools.product(blocks, repeat=length)] + [None]
            some = [closed for length in range(4) for closed in itertools.combinations(blocks, length)] + [None]
            for edge, _ in all_edges(program):
                for block in blocks:
                    for road in roads:
                        for closed in some[::2] if road else some:
                            for paper in (Governs(closed, road), Free(road, closed)):
                                goal = is_right(paper, program, edge, block)
                                self.assertIs(paper.shows(program, edge, block), goal, (vars(paper), edge, block))
                                if goal:
                                    self.assertIs(type(paper) is Governs, governing(program, edge, block))

    def test_exchanged(self):
        for program in (COUNT, NESTED, TWICE):
            for edge, _ in all_edges(program):
                for block in range(len(program)):
                    found = judge_edge(program, edge, block)
                    other = (Free if type(found) is Governs else Governs)(found.closed, found.road)
                    self.assertIs(other.shows(program, edge, block), False)
                    other = (Free(found.road, found.closed) if type(found) is Governs
                             else Governs(found.closed, found.road))
                    self.assertIs(other.shows(program, edge, block), False)

    def test_current_attributes(self):
        paper = Governs((), (1, 3))
        self.ask(paper, True, COUNT, (1, 0), 2)
        paper.road = None
        self.ask(paper, False, COUNT, (1, 0), 2)
        paper = Free((3,), None)
        paper.closed = ()
        self.ask(paper, False, COUNT, (1, 1), 2)

    def test_equal(self):
        self.all_different(
            Governs((), None), Governs((1,), None), Governs((), (1,)), Free((), None), Free(None, ()), Free((1,), None),
            Free(None, None))
        self.assertEqual(Governs((1,), (2,)), Governs((1,), (2,)))
        self.assertEqual(Free((1,), None), Free((1,), None))
        self.assertNotEqual(Free(None, ()), ())

    def test_single_programs_with_one_block(self):
        single = Single(1, (0,), (((), (), STOP),))
        self.assertEqual((sure(single, 0), nearest(single, 0), by_chains(single)), ([0], None, {}))
