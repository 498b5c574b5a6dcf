"""Point [12], plain programs made single."""

import random

from registerrooms.alike import tell_alike
from registerrooms.errors import BadProgram, TooLarge
from registerrooms.joins import by_frontiers
from registerrooms.making import count_joins, names_of, to_single
from registerrooms.programs import Program
from registerrooms.single import Single
from tests.samples import (
    FORK, LOOP, NEVER, NO_PROGRAMS, RING, SINGLE, STOP, RoomTest, events, random_programs, straight, trace, tuples,
)

COUNT = Program(2, (
    ((("put", 0, 3),), ("go", 1)), ((), ("part", 0, 2, 3)), ((("sub", 0, 0, 1),), ("go", 1)),
    ((("tell", 0),), STOP)))


def renamed(single, names):
    """The blocks of a single program with the plain variables in their rows and ends, and without joins."""
    blocks = []
    for block in range(len(single)):
        rows = []
        for word, *rest in single.rows(block):
            count = 1 if word == "put" else len(rest)
            rows.append((word, *[names[one] for one in rest[:count]], *rest[count:]))
        end = single.end(block)
        blocks.append((tuple(rows), (end[0], names[end[1]], *end[2:]) if end[0] == "part" else end))
    return blocks


def ordered(single, program):
    """The variables of a single program in the order in which the document numbers them."""
    found = list(range(program.many))
    for block in range(len(single)):
        found += [variable for variable, _ in single.joins(block)]
        zeros = program.many - program.handed if block == 0 else 0
        found += [row[1] for row in single.rows(block)[zeros:] if row[0] != "tell"]
    return found


def definitions(count):
    """A program with 8 variables and so many rows that define one."""
    return straight([("put", at % 8, 0) for at in range(count)], many=8, handed=2)


class MakingTest(RoomTest):
    def ask(self, program):
        """Ask whether a single program is as the document says."""
        single, names = to_single(program), names_of(program)
        self.assertIs(type(single), Single)
        self.assertIs(type(names), list)
        self.assertEqual((single.many, single.span, len(single)), (len(names), program.span, len(program)))
        self.assertEqual(single.handed, tuple(range(program.handed)))
        self.assertEqual(ordered(single, program), list(range(single.many)))
        self.assertEqual(names[:program.many], list(range(program.many)))
        goal = [list(block) for block in program.blocks]
        goal[0][0] = tuple(("put", variable, 0) for variable in range(program.handed, program.many)) + goal[0][0]
        self.assertEqual(renamed(single, names), [tuple(block) for block in goal])
        for block in range(len(single)):
            placed = [one for one in range(program.many) if block in by_frontiers(program, one)]
            self.assertEqual([names[one] for one, _ in single.joins(block)], placed)
            for one, sources in single.joins(block):
                self.assertEqual({names[source] for source in sources}, {names[one]})
        self.assertEqual(count_joins(program), [len(by_frontiers(program, one)) for one in range(program.many)])
        return single

    def test_ordinary(self):
        single = self.ask(COUNT)
        self.assertEqual(single, Single(5, (), (
            ((), (("put", 0, 0), ("put", 1, 0), ("put", 2, 3)), ("go", 1)),
            (((3, (2, 4)),), (), ("part", 3, 2, 3)),
            ((), (("sub", 4, 3, 1),), ("go", 1)),
            ((), (("tell", 3),), STOP))))
        self.assertEqual((names_of(COUNT), count_joins(COUNT)), ([0, 1, 0, 0, 0], [1, 0]))

    def test_handed_in(self):
        for handed in range(3):
            program = Program(2, COUNT.blocks, handed=handed, span=5)
            single = self.ask(program)
            self.assertEqual((single.handed, single.span), (tuple(range(handed)), 5))
            self.assertEqual(len(single.rows(0)), 3 - handed)
        full = self.ask(straight([("tell", 2)], many=3, handed=3))
        self.assertEqual((full.many, full.handed, full.rows(0)), (3, (0, 1, 2), (("tell", 2),)))

    def test_uses(self):
        # Uses behind the beginning, behind rows of one block, behind those of another one, and behind joins.
        program = Program(2, (
            ((("tell", 0), ("move", 0, 0), ("tell", 0), ("add", 0, 0, 1), ("less", 1, 0, 0), ("tell", 1)), ("part", 1, 1, 2)),
            ((("tell", 1), ("take", 0), ("sub", 1, 0, 1)), ("go", 2)),
            ((("tell", 0), ("move", 0, 1), ("tell", 0)), ("part", 0, 2, 3)),
            ((("tell", 0), ("tell", 1)), STOP)), handed=1)
        self.assertEqual(self.ask(program), Single(10, (0,), (
            ((), (("put", 1, 0), ("tell", 0), ("move", 2, 0), ("tell", 2), ("add", 3, 2, 1), ("less", 4, 3, 3),
                  ("tell", 4)), ("part", 4, 1, 2)),
            ((), (("tell", 4), ("take", 5), ("sub", 6, 5, 4)), ("go", 2)),
            (((7, (3, 5, 9)), (8, (4, 6, 8))), (("tell", 7), ("move", 9, 8), ("tell", 9)), ("part", 9, 2, 3)),
            ((), (("tell", 9), ("tell", 8)), STOP))))

    def test_both_edges_into_one_block(self):
        program = Program(1, (
            ((), ("part", 0, 1, 1)), ((("take", 0),), ("part", 0, 2, 2)), ((("tell", 0),), ("part", 0, 1, 1))), handed=1)
        self.assertEqual(self.ask(program), Single(3, (0,), (
            ((), (), ("part", 0, 1, 1)),
            (((1, (0, 0, 2, 2)),), (("take", 2),), ("part", 2, 2, 2)),
            ((), (("tell", 2),), ("part", 2, 1, 1)))))

    def test_a_join_that_is_used_on_an_edge_only(self):
        program = Program(1, (
            ((), ("part", 0, 1, 2)), ((("take", 0),), ("go", 2)), ((), ("go", 3)), ((), ("part", 0, 2, 4)),
            ((("tell", 0),), STOP)), handed=1)
        single = self.ask(program)
        self.assertEqual(single.joins(2), ((2, (0, 1, 2)),))
        own = self.ask(Program(2, (
            ((("put", 1, 1),), ("go", 1)), ((("take", 0),), ("part", 0, 1, 2)), ((("tell", 1),), STOP))))
        self.assertEqual(own.joins(1), ((3, (0, 4)),))

    def test_edges_in_order(self):
        program = Program(1, (
            ((), ("part", 0, 3, 1)), ((("put", 0, 1),), ("part", 0, 2, 3)), ((("put", 0, 2),), ("go", 3)),
            ((("tell", 0),), STOP)))
        single = self.ask(program)
        self.assertEqual(single.edges_into(3), [(0, 0), (1, 1), (2, 0)])
        self.assertEqual(single.joins(3), ((3, (0, 1, 2)),))

    def test_generated(self):
        for program in (LOOP, FORK, NEVER, RING, *random_programs(81, 60, many=3, count=5, rows=2, handed=1, span=3),
                        *random_programs(82, 30, many=2, count=7, rows=1), *random_programs(83, 10, many=1, count=1)):
            self.ask(program)

    def test_does_the_same(self):
        for handed in (0, 1, 2):
            for program in random_programs(84 + handed, 40, many=2, count=4, rows=3, handed=handed, span=2):
                single = to_single(program)
                self.assertTrue(tell_alike(program, single))
                for numbers in tuples(range(2), handed):
                    for inputs in ((), (0, 1, 1), (1, 0, 0, 1, 0)):
                        self.assertEqual(events(program, numbers, inputs, 12), events(single, numbers, inputs, 12))
                        self.assertEqual(trace(program, numbers, inputs, 20), trace(single, numbers, inputs, 20))

    def test_joins_of_large_programs(self):
        for program in random_programs(90, 10, many=1, count=16, rows=1):
            self.assertTrue(tell_alike(program, self.ask(program)))

    def test_limit(self):
        self.assertEqual(self.ask(definitions(40)).many, 48)
        for count in (41, 42, 60, 96):
            self.refused(TooLarge, to_single, definitions(count))
            self.refused(TooLarge, names_of, definitions(count))
            self.assertEqual(count_joins(definitions(count)), [0] * 8)

    def test_limit_with_joins(self):
        # Two joins for each of the 8 variables.
        blocks = (((), ("go", 1)), (tuple(("take", at) for at in range(8)), ("part", 0, 1, 2)))
        rows = tuple(("put", at % 8, 1) for at in range(12))
        for count, many in ((8, 48), (9, 49), (12, 52)):
            program = Program(8, (*blocks, (rows[:count], ("part", 0, 3, 4)), ((rows[:8], ("go", 4))), ((), STOP)))
            self.assertEqual(count_joins(program), [2] * 8)
            if many == 48:
                self.assertEqual(self.ask(program).many, many)
            else:
                self.refused(TooLarge, to_single, program)
                self.refused(TooLarge, names_of, program)

    def test_most_rows(self):
        program = Program(8, ((tuple(("put", at % 8, 0) for at in range(12)), STOP),))
        self.assertEqual(len(self.ask(program).rows(0)), 20)

    def test_new_each_time(self):
        self.assertIsNot(to_single(COUNT), to_single(COUNT))
        self.assertEqual(to_single(COUNT), to_single(COUNT))
        for ask in (names_of, count_joins):
            self.assertIsNot(ask(COUNT), ask(COUNT))
            goal = list(ask(COUNT))
            ask(COUNT).clear()
            self.assertEqual(ask(COUNT), goal)

    def test_no_programs(self):
        for program in (*NO_PROGRAMS, SINGLE):
            for ask in (to_single, names_of, count_joins):
                self.assertIsNone(self.refused(BadProgram, ask, program).part)

    def test_random_large_ones(self):
        rng = random.Random(91)
        for program in random_programs(92, 15, many=8, count=3, rows=6, handed=3, span=8):
            try:
                single = to_single(program)
            except TooLarge:
                self.assertRaises(TooLarge, names_of, program)
                continue
            self.ask(program)
            for _ in range(3):
                handed = tuple(rng.randrange(8) for _ in range(3))
                inputs = [rng.randrange(8) for _ in range(rng.randrange(9))]
                self.assertEqual(trace(program, handed, inputs, 30), trace(single, handed, inputs, 30))
