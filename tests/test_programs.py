"""Points [1] and [2], for plain programs."""

from registerrooms.errors import BadBlock, BadProgram
from registerrooms.programs import Program
from tests.samples import FORK, LOOP, SINGLE, STOP, RoomTest

ROW = ("tell", 0)


def chain(count):
    """Blocks that lead one to the next one."""
    return tuple(((), ("go", block + 1)) for block in range(count - 1)) + (((), STOP),)


class ProgramTest(RoomTest):
    def wrong(self, part, *args, **named):
        self.assertEqual(self.refused(BadProgram, Program, *args, **named).part, part, (args, named))

    def test_example(self):
        loop = Program(2, (((('take', 0), ('put', 1, 1)), ('go', 1)),
                           ((('tell', 0), ('sub', 0, 0, 1)), ('part', 0, 1, 2)), ((), ('stop',))))
        found = [len(loop), loop.followers(1), loop.edges_into(1), loop.points[:4], loop.end(2), loop.handed]
        self.assertEqual(found, [3, (1, 2), [(0, 0), (1, 0)], [(0, 0), (0, 1), (0, 2), (1, 0)], ('stop',), 0])

    def test_attributes(self):
        program = Program(3, LOOP.blocks, handed=2, span=5)
        self.assertEqual((program.many, program.blocks, program.handed, program.span), (3, LOOP.blocks, 2, 5))
        self.assertEqual((LOOP.many, LOOP.handed, LOOP.span), (2, 0, 4))

    def test_one_block(self):
        program = Program(1, (((ROW, ROW), STOP),))
        self.assertEqual(len(program), 1)
        self.assertEqual(program[0], ((ROW, ROW), STOP))
        self.assertEqual((program.rows(0), program.end(0), program.followers(0)), ((ROW, ROW), STOP, ()))
        self.assertEqual((program.edges_into(0), program.points), ([], [(0, 0), (0, 1), (0, 2)]))

    def test_blocks(self):
        self.assertEqual([LOOP[block] for block in range(3)], list(LOOP.blocks))
        self.assertEqual(LOOP.rows(1), (("tell", 0), ("sub", 0, 0, 1)))
        self.assertEqual([LOOP.end(block) for block in range(3)], [("go", 1), ("part", 0, 1, 2), STOP])
        self.assertEqual([LOOP.followers(block) for block in range(3)], [(1,), (1, 2), ()])
        self.assertEqual([LOOP.edges_into(block) for block in range(3)], [[], [(0, 0), (1, 0)], [(1, 1)]])
        self.assertEqual(LOOP.points, [(0, 0), (0, 1), (0, 2), (1, 0), (1, 1), (1, 2), (2, 0)])
        self.assertEqual([FORK.edges_into(block) for block in range(4)], [[], [(0, 0)], [(0, 1)], [(1, 0), (2, 0)]])

    def test_part_both_ways_to_one_block(self):
        program = Program(1, (((), ("part", 0, 1, 1)), ((), ("part", 0, 1, 1))))
        self.assertEqual((program.followers(0), program.followers(1)), ((1, 1), (1, 1)))
        self.assertEqual(program.edges_into(1), [(0, 0), (0, 1), (1, 0), (1, 1)])

    def test_each_row(self):
        rows = (("put", 1, 3), ("move", 0, 1), ("add", 0, 1, 1), ("sub", 1, 1, 1), ("less", 0, 0, 0), ("take", 1),
                ("tell", 1))
        self.assertEqual(Program(2, ((rows, STOP),)).rows(0), rows)

    def test_equality(self):
        blocks = (((ROW,), STOP),)
        self.assertEqual(Program(2, blocks), Program(2, (((ROW,), STOP),), handed=0, span=4))
        self.all_different(
            Program(2, blocks), Program(3, blocks), Program(2, blocks, handed=1), Program(2, blocks, span=5),
            Program(2, (((ROW, ROW), STOP),)), SINGLE, None, 3, blocks)

    def test_limits(self):
        one = (((), STOP),)
        for many in (1, 8):
            self.assertEqual(Program(many, one).many, many)
        for many in (0, 9, -1, 10 ** 30):
            self.wrong("many", many, one)
        for many, handed in ((1, 0), (1, 1), (2, 2), (3, 3), (8, 3), (8, 0)):
            self.assertEqual(Program(many, one, handed=handed).handed, handed)
        for many, handed in ((1, 2), (2, 3), (3, 4), (8, 4), (8, -1)):
            self.wrong("handed", many, one, handed=handed)
        for span in (2, 8):
            self.assertEqual(Program(1, one, span=span).span, span)
        for span in (1, 9, 0, -2):
            self.wrong("span", 1, one, span=span)
        for count in (1, 2, 16):
            self.assertEqual(len(Program(1, chain(count))), count)
        for count in (17, 40):
            self.wrong("blocks", 1, chain(count))
        self.wrong("blocks", 1, ())
        for count in (0, 1, 12):
            self.assertEqual(len(Program(1, (((ROW,) * count, STOP),)).rows(0)), count)
        self.wrong("blocks", 1, (((ROW,) * 13, STOP),))
        self.wrong("blocks", 1, (((), ("go", 1)), ((ROW,) * 13, STOP)))

    def test_numbers_of_rows(self):
        for row in (("put", 1, 2), ("put", 0, 0), ("move", 1, 0), ("add", 0, 1, 1), ("tell", 1), ("take", 1)):
            self.assertEqual(Program(2, (((row,), STOP),), span=3).rows(0), (row,))
        for row in (
                ("put", 2, 0), ("put", 0, 3), ("put", -1, 0), ("put", 0, -1), ("move", 2, 0), ("move", 0, 2),
                ("move", 0, -1), ("add", 2, 0, 0), ("add", 0, 2, 0), ("add", 0, 0, 2), ("sub", 0, 0, 2),
                ("sub", 0, -1, 0), ("less", 2, 0, 0), ("less", 0, 0, -1), ("take", 2), ("tell", 2), ("tell", -1)):
            self.wrong("blocks", 2, (((row,), STOP),), span=3)

    def test_ends(self):
        for end in (("go", 1), ("part", 1, 1, 2), ("part", 0, 2, 2), ("part", 0, 2, 1)):
            rest = (((), ("go", 2)), ((), ("go", 1)))
            self.assertEqual(Program(2, (((), end),) + rest).end(0), end)
        for end in (
                ("go", 0), ("go", 3), ("go", -1), ("part", 2, 1, 2), ("part", -1, 1, 2), ("part", 0, 0, 1),
                ("part", 0, 1, 0), ("part", 0, 3, 1), ("part", 0, 1, 3), ("part", 0, 1, -1)):
            rest = (((), ("go", 2)), ((), ("go", 1)))
            self.wrong("blocks", 2, (((), end),) + rest)
        self.wrong("blocks", 1, (((), ("go", 0)),))
        self.wrong("blocks", 1, (((), ("go", 1)), ((), ("go", 0))))

    def test_blocks_that_cannot_be_come_to(self):
        self.wrong("blocks", 1, (((), STOP), ((), STOP)))
        self.wrong("blocks", 1, (((), ("go", 1)), ((), STOP), ((), ("go", 1))))
        self.wrong("blocks", 1, (((), ("go", 1)), ((), ("go", 1)), ((), ("go", 3)), ((), ("go", 2))))

    def test_the_first_wrong_part(self):
        wrong = {"many": True, "handed": 4, "span": 1, "blocks": ()}
        good = {"many": 3, "handed": 1, "span": 3, "blocks": (((), STOP),)}
        order = ("many", "handed", "span", "blocks")
        for mask in range(1, 16):
            given = {name: (wrong if mask >> at & 1 else good)[name] for at, name in enumerate(order)}
            first = [name for at, name in enumerate(order) if mask >> at & 1][0]
            many, blocks = given.pop("many"), given.pop("blocks")
            self.wrong(first, many, blocks, **given)

    def test_wrong_kinds_of_parts(self):
        one = (((), STOP),)
        for thing in (None, True, False, "2", (), [], (2,), {}, b"2", Program):
            self.wrong("many", thing, one)
            self.wrong("handed", 2, one, handed=thing)
            self.wrong("span", 2, one, span=thing)
        for thing in (None, True, 1, "blocks", [((), STOP)], {0: ((), STOP)}, LOOP, {((), STOP)}, b"blocks"):
            self.wrong("blocks", 2, thing)

    def test_wrong_kinds_within_blocks(self):
        def program(row=("add", 0, 0, 0), end=("part", 0, 1, 1), **more):
            return (more.get("block", (more.get("rows", (row,)), end)), ((), STOP))

        self.assertEqual(len(Program(2, program())), 2)
        for block in (None, True, 0, "block", (), [(), ("go", 1)], ((),), ((), ("go", 1), ()), (("go", 1), ()),
                      ((), (), ("go", 1)), {(): ("go", 1)}):
            self.wrong("blocks", 2, program(block=block))
        for rows in (None, True, 0, "rows", [], [ROW], {}, ROW, ((),), (None,), (True,), (3,), ("tell",), ([],)):
            self.wrong("blocks", 2, program(rows=rows))
        for row in (
                ["tell", 0], (), ("tell",), ("tell", 0, 0), ("put", 0), ("put", 0, 0, 0), ("move", 0),
                ("move", 0, 0, 0), ("add", 0, 0), ("add", 0, 0, 0, 0), ("take",), ("take", 0, 0), ("stop",),
                ("go", 1), ("Tell", 0), ("", 0), (None, 0), (True, 0), (0, 0), (("tell",), 0), (["tell"], 0),
                (b"tell", 0), ("join", 0, (0,)), ("tell", None), ("tell", "0"), ("tell", (0,)), ("tell", [0])):
            self.wrong("blocks", 2, program(row=row))
        for end in (
                None, True, 1, "stop", [], ["stop"], (), ("go",), ("go", 1, 1), ("part", 0, 1), ("part", 0, 1, 1, 1),
                ("stop", 0), ("Go", 1), (None, 1), (["go"], 1), ("tell", 0), ("go", None), ("go", "1"), ("go", (1,))):
            self.wrong("blocks", 2, program(end=end))

    def test_booleans_are_no_integers(self):
        for row in (
                ("put", True, 0), ("put", 0, True), ("move", True, 0), ("move", 0, False), ("add", False, 0, 0),
                ("sub", 0, True, 0), ("less", 0, 0, False), ("take", True), ("tell", False)):
            self.wrong("blocks", 2, (((row,), STOP),))
        for end in (("go", True), ("part", True, 1, 1), ("part", 0, True, 1), ("part", 0, 1, True)):
            self.wrong("blocks", 2, (((), end), ((), STOP)))

    def test_bad_blocks(self):
        for ask in (LOOP.__getitem__, LOOP.rows, LOOP.end, LOOP.followers, LOOP.edges_into):
            for block in (-1, 3, 10 ** 20, True, False, None, "0", (0,), [0], slice(0, 1)):
                self.refused(BadBlock, ask, block)

    def test_returned_lists_are_new(self):
        LOOP.points.append(None)
        LOOP.edges_into(1).clear()
        self.assertEqual(len(LOOP.points), 7)
        self.assertEqual(LOOP.edges_into(1), [(0, 0), (1, 0)])
        self.assertIsNot(LOOP.points, LOOP.points)
