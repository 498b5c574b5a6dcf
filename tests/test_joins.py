"""Point [11], where joins are needed."""

import itertools
import random

from registerrooms.errors import BadBlock, BadBlocks, BadProgram, BadVariable
from registerrooms.joins import Placed, by_frontiers, defining, frontier, is_enough, place_joins
from registerrooms.programs import Program
from registerrooms.roads import heads
from tests.samples import FORK, LOOP, NEVER, NO_PROGRAMS, RING, SINGLE, STOP, RoomTest, random_programs

PUT = (("put", 0, 1),)
COUNT = Program(2, (
    ((("put", 0, 3),), ("go", 1)), ((), ("part", 0, 2, 3)), ((("sub", 0, 0, 1),), ("go", 1)),
    ((("tell", 0),), STOP)))
DIAMOND = Program(1, (((), ("part", 0, 1, 2)), (PUT, ("go", 3)), ((), ("go", 3)), ((("tell", 0),), STOP)))
SELF = Program(1, (((), ("go", 1)), (PUT, ("part", 0, 1, 2)), ((), STOP)))
BOTH = Program(1, (((), ("part", 0, 1, 1)), ((), STOP)))
BOTH_PUT = Program(1, ((PUT, ("part", 0, 1, 1)), ((), ("part", 0, 2, 2)), (PUT, ("part", 0, 1, 3)), ((), STOP)))
# Roads to the join in block 5 can begin at the one in block 3.
LEANS = Program(1, (
    ((), ("part", 0, 1, 4)), ((), ("part", 0, 2, 3)), (PUT, ("go", 3)), ((), ("go", 5)), ((), ("go", 5)), ((), STOP)))
# The same, in blocks with smaller numbers.
BACKWARDS = Program(1, (
    ((), ("part", 0, 5, 2)), ((), STOP), ((), ("go", 1)), ((), ("go", 1)), (PUT, ("go", 3)), ((), ("part", 0, 4, 3))))
WITHIN = Program(1, (
    ((), ("go", 1)), ((), ("part", 0, 2, 5)), ((), ("part", 0, 3, 4)), (PUT, ("go", 2)), ((), ("go", 1)), ((), STOP)))
SAMPLES = (COUNT, DIAMOND, SELF, BOTH, BOTH_PUT, LEANS, BACKWARDS, WITHIN, LOOP, FORK, NEVER, RING)
NO_VARIABLES = (2, -1, True, None, "0", (0,))
NO_BLOCKS = (
    [], [1], None, 1, "1", {1}, {}, (0,), (0, 1), (4,), (-1,), (1, 1), (2, 1), (True,), (1, True), ("1",), (None,),
    ((1,),), range(1, 2))


def puts(program, variable):
    """The blocks with a row that defines a variable."""
    return {block for block in range(len(program)) for row in program.rows(block)
            if row[0] != "tell" and row[1] == variable}


def reaches(program, source, block, sources):
    """Whether a source reaches a block, by going through all that can be on such a road."""
    seen, waiting = set(), [source]
    while waiting:
        for follower in program.followers(waiting.pop()):
            if follower == block:
                return True
            if follower not in sources and follower not in seen:
                seen.add(follower)
                waiting.append(follower)
    return False


def do_reach(program, block, sources):
    """All sources that reach a block."""
    return [source for source in sorted(sources) if reaches(program, source, block, sources)]


def enough(program, variable, joined):
    """Whether joins in some blocks are enough, by the words of the document."""
    sources = puts(program, variable) | {0} | set(joined)
    return all(len(do_reach(program, block, sources)) <= 1 for block in range(1, len(program)) if block not in joined)


def all_enough(program, variable):
    """All sets of blocks that are enough."""
    inner = range(1, len(program))
    return [some for length in range(len(program)) for some in itertools.combinations(inner, length)
            if enough(program, variable, some)]


def is_walk(program, road, block):
    """Whether this is a road of two or more blocks that ends at a block, which is not within it."""
    if len(road) < 2 or not all(isinstance(one, int) and 0 <= one < len(program) for one in road):
        return False
    return (all(behind in program.followers(one) for one, behind in zip(road, road[1:])) and road[-1] == block
            and block not in road[1:-1])


def is_placed(paper, program, variable):
    """Whether a Placed is right, by the words of the document."""
    inner = set(range(1, len(program)))
    if list(paper.blocks) != sorted(set(paper.blocks)) or not set(paper.blocks) <= inner:
        return False
    sources = puts(program, variable) | {0}
    if set(paper.reaching) != inner - set(paper.blocks):
        return False
    for block, source in paper.reaching.items():
        if do_reach(program, block, sources | set(paper.blocks)) != [source]:
            return False
    if sorted(block for block, _, _ in paper.reasons) != list(paper.blocks):
        return False
    for block, one, other in paper.reasons:
        if not is_walk(program, one, block) or not is_walk(program, other, block):
            return False
        if one[0] == other[0] or not {one[0], other[0]} <= sources or set(one) & set(other) != {block}:
            return False
        sources.add(block)
    return True


def random_samples(seed, times, count, many=2):
    """So many programs with few rows, so that few blocks are sources."""
    return random_programs(seed, times, many=many, count=count, rows=1, words=("put", "tell", "tell", "move"))


class JoinsTest(RoomTest):
    def ask(self, program, variable):
        """Ask what a Placed is against the words of the document."""
        found = place_joins(program, variable)
        self.assertIs(found.shows(program, variable), True)
        self.assertTrue(is_placed(found, program, variable), (program.blocks, variable, vars(found)))
        self.assertEqual(by_frontiers(program, variable), found.blocks)
        self.assertIs(type(by_frontiers(program, variable)), tuple)
        self.assertIs(type(found.blocks), tuple)
        self.assertEqual(list(found.reaching), sorted(found.reaching))
        self.assertEqual(defining(program, variable), sorted(puts(program, variable) | {0}))
        return found

    def test_against_all_sets(self):
        for count, times in ((1, 2), (2, 8), (3, 20), (4, 30), (5, 40), (6, 20)):
            for program in random_samples(40 + count, times, count):
                for variable in range(2):
                    sets = all_enough(program, variable)
                    least = set.intersection(*map(set, sets))
                    found = self.ask(program, variable)
                    self.assertEqual(found.blocks, tuple(sorted(least)))
                    self.assertIn(found.blocks, sets)
                    for length in range(count):
                        for some in itertools.combinations(range(1, count), length):
                            self.assertIs(is_enough(program, variable, some), some in sets, (program.blocks, some))

    def test_large_ones(self):
        for program in random_samples(50, 25, 9) + random_samples(51, 12, 16, many=4):
            for variable in range(program.many):
                self.ask(program, variable)

    def test_ordinary(self):
        for program, blocks, reaching in (
                (COUNT, (1,), {2: 1, 3: 1}), (DIAMOND, (3,), {1: 0, 2: 0}), (SELF, (1,), {2: 1}), (BOTH, (), {1: 0}),
                (BOTH_PUT, (1,), {2: 1, 3: 2}), (LEANS, (3, 5), {1: 0, 2: 0, 4: 0}),
                (BACKWARDS, (1, 3), {2: 0, 4: 0, 5: 0}), (WITHIN, (1, 2), {3: 2, 4: 2, 5: 1}), (FORK, (), {1: 0, 2: 0, 3: 0}),
                (NEVER, (), {1: 0})):
            found = self.ask(program, 0)
            self.assertEqual((found.blocks, found.reaching), (blocks, reaching))
        self.assertEqual(sorted(reason[0] for reason in place_joins(BACKWARDS, 0).reasons), [1, 3])
        self.assertEqual(self.ask(COUNT, 1).reasons, [])
        self.assertEqual(defining(COUNT, 0), [0, 2])
        self.assertEqual(defining(COUNT, 1), [0])
        self.assertEqual(defining(SELF, 0), [0, 1])

    def test_one_block(self):
        one = Program(1, ((PUT, STOP),))
        found = self.ask(one, 0)
        self.assertEqual((found.blocks, found.reaching, found.reasons), ((), {}, []))
        self.assertIs(is_enough(one, 0, ()), True)
        self.assertEqual(frontier(one, 0), [])

    def test_all_rows_that_define(self):
        for word, more in (("put", (1,)), ("move", (0,)), ("add", (0, 0)), ("sub", (0, 0)), ("less", (0, 0)), ("take", ())):
            program = Program(2, (((), ("part", 0, 1, 2)), (((word, 1, *more),), ("go", 2)), ((), STOP)))
            self.assertEqual((defining(program, 1), defining(program, 0)), ([0, 1], [0]))
            self.assertEqual((by_frontiers(program, 1), by_frontiers(program, 0)), ((2,), ()))
        told = Program(2, (((), ("part", 0, 1, 2)), ((("tell", 1),), ("go", 2)), ((), STOP)))
        self.assertEqual((defining(told, 1), by_frontiers(told, 1)), ([0], ()))

    def test_is_enough(self):
        for blocks, answer in (((), False), ((1,), True), ((1, 2), True), ((1, 3), True), ((2,), False), ((1, 2, 3), True)):
            self.assertIs(is_enough(COUNT, 0, blocks), answer, blocks)
        for blocks in ((), (1,), (2,), (1, 2, 3)):
            self.assertIs(is_enough(COUNT, 1, blocks), blocks != (2,), blocks)

    def test_frontier(self):
        for program in (*SAMPLES, *random_samples(60, 40, 6)):
            for block in range(len(program)):
                headed = [one for one in range(len(program)) if block in heads(program, one)]
                goal = {follower for one in headed for follower in program.followers(one)
                        if follower == block or block not in heads(program, follower)}
                self.assertEqual(frontier(program, block), sorted(goal))
            self.assertEqual(frontier(program, 0), [])
        self.assertEqual([frontier(COUNT, block) for block in range(4)], [[], [1], [1], []])
        self.assertEqual([frontier(SELF, block) for block in range(3)], [[], [1], []])
        self.assertEqual([frontier(DIAMOND, block) for block in range(4)], [[], [3], [3], []])

    def test_new_each_time(self):
        for ask in (lambda: place_joins(COUNT, 0), lambda: defining(COUNT, 0), lambda: frontier(COUNT, 1)):
            self.assertEqual(ask(), ask())
            self.assertIsNot(ask(), ask())
        defining(COUNT, 0).clear()
        frontier(COUNT, 1).clear()
        place_joins(COUNT, 0).reaching.clear()
        place_joins(COUNT, 0).reasons.clear()
        self.assertEqual((defining(COUNT, 0), frontier(COUNT, 1)), ([0, 2], [1]))
        self.assertTrue(place_joins(COUNT, 0).shows(COUNT, 0))


class PlacedTest(RoomTest):
    def shown(self, program, blocks, reaching, reasons, variable=0):
        """Whether a Placed shows, which is asked for by the words of the document, too."""
        paper = Placed(blocks, reaching, reasons)
        found = paper.shows(program, variable)
        self.assertIs(found, is_placed(paper, program, variable), (blocks, reaching, reasons))
        return found

    def test_blocks(self):
        one, other = (1, (0, 1), (2, 1)), {2: 1, 3: 1}
        self.assertTrue(self.shown(COUNT, (1,), other, [one]))
        self.assertFalse(self.shown(COUNT, (), {1: 0, 2: 1, 3: 1}, []))
        self.assertFalse(self.shown(COUNT, (), {1: 0, 2: 0, 3: 0}, []))
        self.assertFalse(self.shown(COUNT, (), {1: 2, 2: 0, 3: 0}, []))
        self.assertFalse(self.shown(COUNT, (1, 3), {2: 1}, [one]))
        self.assertFalse(self.shown(COUNT, (1, 3), {2: 1}, [one, (3, (1, 3), (0, 1, 3))]))
        self.assertFalse(self.shown(COUNT, (1, 2), {3: 1}, [one, (2, (1, 2), (0, 1, 2))]))
        self.assertFalse(self.shown(COUNT, (2,), {1: 0, 3: 0}, [one]))
        self.assertFalse(self.shown(COUNT, (1,), other, [one], 1))
        self.assertFalse(self.shown(COUNT, (1, 1), other, [one]))
        for blocks in ((0, 1), (True,), (4,), (-1,), ("1",), None, [1], 1, (1, None)):
            self.assertIs(Placed(blocks, other, [one]).shows(COUNT, 0), False, blocks)

    def test_reaching(self):
        reasons = [(1, (0, 1), (2, 1))]
        for reaching in ({}, {2: 1}, {3: 1}, {2: 1, 3: 1, 1: 0}, {2: 1, 3: 1, 0: 0}, {2: 0, 3: 1}, {2: 1, 3: 0},
                         {2: 1, 3: 2}, {2: 2, 3: 1}, {2: 3, 3: 1}, {2: 1, 3: 1, 4: 1}, {2: 1, 3: 4}, {2: 1, 3: -3}):
            self.assertFalse(self.shown(COUNT, (1,), reaching, reasons), reaching)
        for reaching in ({2: True, 3: 1}, {2: 1, 3: None}, {2: 1, 3: (1,)}, {2: 1, "3": 1}, {2: 1, 3: 1, None: 1}):
            self.assertIs(Placed((1,), reaching, reasons).shows(COUNT, 0), False, reaching)
        self.assertTrue(self.shown(SELF, (1,), {2: 1}, [(1, (0, 1), (1, 1))]))
        self.assertIs(Placed((2,), {True: 0}, []).shows(FORK, 0), False)
        self.assertIs(Placed((), {True: 0}, []).shows(BOTH, 0), False)
        self.assertIs(Placed((), {1: False}, []).shows(BOTH, 0), False)
        self.assertTrue(Placed((), {1: 0}, []).shows(BOTH, 0))

    def test_reaching_in_another_order(self):
        reasons = [(1, (0, 1), (2, 1))]
        self.assertTrue(Placed((1,), {3: 1, 2: 1}, reasons).shows(COUNT, 0))
        self.assertEqual(Placed((1,), {3: 1, 2: 1}, reasons), Placed((1,), {2: 1, 3: 1}, reasons))

    def test_reasons(self):
        reaching = {2: 1, 3: 1}
        for reason in ((1, (2, 1), (0, 1)), (1, (0, 1), (2, 1))):
            self.assertTrue(self.shown(COUNT, (1,), reaching, [reason]))
        for reasons in ([], [(1, (0, 1), (2, 1))] * 2, [(1, (0, 1), (0, 1))], [(1, (0, 1), (1,))], [(1, (1,), (0, 1))],
                        [(1, (0, 1), (1, 2, 1))], [(1, (0, 1), (3, 1))], [(1, (0, 1), (2, 3, 1))], [(1, (0, 1), ())],
                        [(1, (0, 1, 2, 1), (2, 1))], [(1, (0, 1), (2, 1, 2, 1))], [(1, (0, 1), (2, 1, 2))],
                        [(2, (0, 1), (2, 1))], [(3, (0, 1, 3), (2, 1, 3))], [(1, (0, 1), (2, 1)), (3, (1, 3), (0, 1, 3))],
                        [(1, (0, 1), (4, 1))], [(1, (0, 1), (-2, 1))], [(0, (0, 1), (2, 1))]):
            self.assertFalse(self.shown(COUNT, (1,), reaching, reasons), reasons)
        for reason in ((True, (0, 1), (2, 1)), (1, (False, 1), (2, 1)), (1, (0, True), (2, 1)), (1, [0, 1], (2, 1)),
                       (1, (0, 1)), (1, (0, 1), (2, 1), ()), None, (), "123", [1, (0, 1), (2, 1)], (None, (0, 1), (2, 1)),
                       (1, None, (2, 1)), (1, (0, 1), (None, 1))):
            self.assertIs(Placed((1,), reaching, [reason]).shows(COUNT, 0), False, reason)

    def test_roads_with_a_block_in_common(self):
        fork = Program(1, (
            ((), ("part", 0, 1, 2)), (PUT, ("go", 3)), (PUT, ("go", 3)), ((), ("go", 4)), ((), STOP)))
        reaching = {1: 0, 2: 0, 4: 3}
        self.assertTrue(self.shown(fork, (3,), reaching, [(3, (1, 3), (2, 3))]))
        self.assertTrue(self.shown(fork, (3,), reaching, [(3, (0, 1, 3), (2, 3))]))
        self.assertFalse(self.shown(fork, (3,), reaching, [(3, (0, 1, 3), (1, 3))]))
        self.assertFalse(self.shown(fork, (3,), reaching, [(3, (0, 1, 3), (0, 2, 3))]))
        self.assertFalse(self.shown(fork, (3,), reaching, [(3, (1, 3), (1, 3))]))
        self.assertFalse(self.shown(fork, (3, 4), {1: 0, 2: 0}, [(3, (1, 3), (2, 3)), (4, (1, 3, 4), (2, 3, 4))]))
        self.assertFalse(self.shown(fork, (3, 4), {1: 0, 2: 0}, [(3, (1, 3), (2, 3)), (4, (3, 4), (1, 3, 4))]))

    def test_a_reason_at_whose_beginning_its_block_is(self):
        for reason, answer in (
                ((1, (1, 1), (0, 1)), True), ((1, (0, 1), (1, 1)), True), ((1, (1, 1), (1, 1)), False),
                ((1, (1, 1, 1), (0, 1)), False), ((1, (0, 1, 1), (1, 1)), False), ((1, (1,), (0, 1)), False),
                ((1, (0, 1), (1,)), False)):
            self.assertIs(self.shown(SELF, (1,), {2: 1}, [reason]), answer, reason)
        # A block with a join is no source for its own reason.
        still = Program(1, (((), ("go", 1)), ((), ("part", 0, 1, 2)), ((), STOP)))
        self.assertFalse(self.shown(still, (1,), {2: 1}, [(1, (0, 1), (1, 1))]))
        self.assertTrue(self.shown(still, (), {1: 0, 2: 0}, []))

    def test_reasons_that_lean_on_others(self):
        reaching = {1: 0, 2: 0, 4: 0}
        first = (3, (2, 3), (0, 1, 3))
        for second in ((5, (3, 5), (0, 4, 5)), (5, (2, 3, 5), (0, 4, 5))):
            self.assertTrue(self.shown(LEANS, (3, 5), reaching, [first, second]))
            self.assertIs(self.shown(LEANS, (3, 5), reaching, [second, first]), second[1][0] == 2)
        self.assertFalse(self.shown(LEANS, (3, 5), reaching, [first, first]))
        self.assertFalse(self.shown(LEANS, (3, 5), reaching, [first]))
        self.assertFalse(self.shown(LEANS, (3, 5), reaching, [first, (5, (1, 3, 5), (0, 4, 5))]))
        self.assertFalse(self.shown(LEANS, (3, 5), reaching, [first, (5, (3, 5), (4, 5))]))
        self.assertFalse(self.shown(LEANS, (3, 5), reaching, [first, (5, (3, 5), (0, 1, 3, 5))]))
        self.assertFalse(self.shown(LEANS, (3, 5), reaching, [first, (5, (0, 4), (2, 3))]))
        self.assertFalse(self.shown(LEANS, (3, 5), reaching, [first, (5, (0, 4), (3, 5))]))
        self.assertFalse(self.shown(LEANS, (3, 5), reaching, [first, (5, (3, 5), (0, 4))]))
        self.assertFalse(self.shown(LEANS, (3,), {**reaching, 5: 3}, [first]))

    def test_roads_may_turn_round(self):
        # Nothing forbids a road to be at a block twice.
        turning = Program(1, (
            ((), ("part", 0, 1, 4)), ((), ("part", 0, 2, 3)), ((), ("go", 1)), ((), STOP), (PUT, ("go", 3))))
        for road in ((0, 1, 3), (0, 1, 2, 1, 3)):
            self.assertTrue(self.shown(turning, (3,), {1: 0, 2: 0, 4: 0}, [(3, road, (4, 3))]))

    def test_altered(self):
        rng = random.Random(70)
        for program in (COUNT, LEANS, BACKWARDS, WITHIN, SELF, *random_samples(71, 12, 5)):
            for variable in range(program.many):
                found = place_joins(program, variable)
                for _ in range(25):
                    blocks, reaching, reasons = list(found.blocks), dict(found.reaching), list(found.reasons)
                    how = rng.randrange(6)
                    some = rng.randrange(len(program))
                    if how == 0 and blocks:
                        reaching[blocks.pop(rng.randrange(len(blocks)))] = some
                    elif how == 1 and some > 0:
                        blocks = sorted({*blocks, some})
                        reaching.pop(some, None)
                    elif how == 2 and reaching:
                        reaching[rng.choice(list(reaching))] = some
                    elif how == 3:
                        rng.shuffle(reasons)
                    elif how == 4 and reasons:
                        at = rng.randrange(len(reasons))
                        block, one, other = reasons[at]
                        reasons[at] = rng.choice(((block, one, one), (block, one[1:], other), (some, one, other),
                                                  (block, (some, *one[1:]), other), (block, other, one)))
                    elif how == 5 and reasons:
                        reasons.pop()
                    self.shown(program, tuple(blocks), reaching, reasons, variable)

    def test_current_attributes_and_copies(self):
        reaching, reasons = {2: 1, 3: 1}, [(1, (0, 1), (2, 1))]
        paper = Placed((1,), reaching, reasons)
        reaching.clear()
        reasons.clear()
        self.assertTrue(paper.shows(COUNT, 0))
        paper.reasons.clear()
        self.assertFalse(paper.shows(COUNT, 0))
        paper.reasons = [(1, (0, 1), (2, 1))]
        self.assertTrue(paper.shows(COUNT, 0))
        paper.blocks = ()
        self.assertFalse(paper.shows(COUNT, 0))
        self.all_different(Placed((), {}, []), Placed((1,), {}, []), Placed((), {1: 0}, []), Placed((), {}, [(1, (), ())]))
        self.assertEqual(Placed((1,), {2: 1}, []), Placed((1,), {2: 1}, []))


class RefusedTest(RoomTest):
    def test_no_programs(self):
        for program in (*NO_PROGRAMS, SINGLE):
            for ask in (defining, place_joins, by_frontiers, Placed((), {}, []).shows):
                for variable in (0, None):
                    self.assertIsNone(self.refused(BadProgram, ask, program, variable).part)
            for variable, blocks in ((0, ()), (None, ()), (0, None), (None, None)):
                self.assertIsNone(self.refused(BadProgram, is_enough, program, variable, blocks).part)
            for block in (0, None):
                self.assertIsNone(self.refused(BadProgram, frontier, program, block).part)

    def test_no_variables(self):
        for variable in NO_VARIABLES:
            for ask in (defining, place_joins, by_frontiers, Placed((), {}, []).shows, Placed(None, {}, []).shows):
                self.refused(BadVariable, ask, COUNT, variable)
            for blocks in ((), (1,), (0,), None):
                self.refused(BadVariable, is_enough, COUNT, variable, blocks)

    def test_no_blocks(self):
        for blocks in NO_BLOCKS:
            self.refused(BadBlocks, is_enough, COUNT, 0, blocks)
        for block in (4, -1, True, None, "0", (0,)):
            self.refused(BadBlock, frontier, COUNT, block)
