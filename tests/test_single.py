"""Points [1] and [3], for single programs."""

from registerrooms.errors import BadBlock, BadSingle, BadVariable
from registerrooms.programs import Program
from registerrooms.single import Single
from tests.samples import LOOP, SINGLE, STOP, RoomTest, made_single, random_programs


def chain(count, rows=()):
    """Blocks that lead one to the next one, of which the first one has rows."""
    ends = [("go", block + 1) for block in range(count - 1)] + [STOP]
    return tuple(((), rows if block == 0 else (), end) for block, end in enumerate(ends))


def puts(count, first=0):
    """Rows that define so many variables, one after the other."""
    return tuple(("put", variable, 0) for variable in range(first, first + count))


class SingleTest(RoomTest):
    def wrong(self, part, *args, **named):
        self.assertEqual(self.refused(BadSingle, Single, *args, **named).part, part, (args, named))

    def test_example(self):
        single = Single(4, (0,), (
            ((), (('put', 1, 1),), ('go', 1)),
            (((2, (0, 3)),), (('tell', 2), ('sub', 3, 2, 1)), ('part', 3, 1, 2)), ((), (), ('stop',))))
        found = [single.joins(1), [single.definition(one) for one in range(4)], single.edges_into(1)]
        self.assertEqual(found, [((2, (0, 3)),), [(0, 0), (0, 1), (1, 0), (1, 2)], [(0, 0), (1, 0)]])

    def test_attributes(self):
        single = Single(4, (0,), SINGLE.blocks, span=5)
        self.assertEqual((single.many, single.handed, single.blocks, single.span), (4, (0,), SINGLE.blocks, 5))
        self.assertEqual(SINGLE.span, 4)

    def test_all_that_is_told_of_programs(self):
        self.assertEqual((len(SINGLE), SINGLE[1]), (3, SINGLE.blocks[1]))
        self.assertEqual(SINGLE.rows(1), (("tell", 2), ("sub", 3, 2, 1)))
        self.assertEqual([SINGLE.end(block) for block in range(3)], [("go", 1), ("part", 3, 1, 2), STOP])
        self.assertEqual([SINGLE.followers(block) for block in range(3)], [(1,), (1, 2), ()])
        self.assertEqual([SINGLE.edges_into(block) for block in range(3)], [[], [(0, 0), (1, 0)], [(1, 1)]])
        self.assertEqual(SINGLE.points, [(0, 0), (0, 1), (1, 0), (1, 1), (1, 2), (2, 0)])
        self.assertEqual([SINGLE.joins(block) for block in range(3)], [(), ((2, (0, 3)),), ()])

    def test_one_block(self):
        single = Single(1, (0,), (((), (), STOP),))
        self.assertEqual((len(single), single.points, single.edges_into(0), single.joins(0)), (1, [(0, 0)], [], ()))
        self.assertEqual(single.definition(0), (0, 0))

    def test_equality(self):
        blocks, more = (((), puts(1, 2), STOP),), (((), puts(1, 2) + (("tell", 2),), STOP),)
        self.assertEqual(Single(3, (0, 1), blocks), Single(3, (0, 1), (((), puts(1, 2), STOP),), span=4))
        plain = Program(1, (((("put", 0, 0),), STOP),))
        self.all_different(
            Single(3, (0, 1), blocks), Single(3, (1, 0), blocks), Single(3, (0, 1), blocks, span=5),
            Single(3, (0, 1), more), Single(4, (0, 1, 3), blocks), Single(1, (), (((), puts(1), STOP),)),
            plain, None, blocks)

    def test_definitions_by_each_row(self):
        rows = (("put", 1, 3), ("move", 2, 0), ("add", 3, 1, 2), ("tell", 3), ("sub", 4, 3, 0), ("less", 5, 0, 4),
                ("take", 6))
        single = Single(7, (0,), (((), rows, STOP),))
        self.assertEqual([single.definition(one)[1] for one in range(7)], [0, 1, 2, 3, 5, 6, 7])

    def test_limits(self):
        for many in (1, 24, 48):
            blocks = (((), puts(min(24, many)), ("go", 1)), ((), puts(many - min(24, many), 24), STOP))
            self.assertEqual(Single(many, (), blocks).many, many)
        for many in (0, 49, -1):
            self.wrong("many", many, (), SINGLE.blocks)
        for span in (2, 8):
            self.assertEqual(Single(4, (0,), SINGLE.blocks, span=span).span, span)
        for span in (1, 9):
            self.wrong("span", 4, (0,), SINGLE.blocks, span=span)
        for handed in ((), (0,), (2, 0), (1, 2, 0)):
            rows = tuple(("put", variable, 0) for variable in range(3) if variable not in handed)
            self.assertEqual(Single(3, handed, (((), rows, STOP),)).handed, handed)
        for handed in ((0, 1, 2, 3), (4,), (-1,), (0, 4)):
            self.wrong("handed", 4, handed, SINGLE.blocks)
        for count in (1, 16):
            self.assertEqual(len(Single(1, (), chain(count, puts(1)))), count)
        self.wrong("blocks", 1, (), chain(17, puts(1)))
        self.wrong("blocks", 1, (), ())
        self.assertEqual(len(Single(24, (), chain(1, puts(24))).rows(0)), 24)
        self.wrong("blocks", 25, (), chain(1, puts(25)))

    def test_numbers_just_inside_and_outside(self):
        def blocks(row=("put", 1, 2), end=("part", 0, 1, 1), join=(2, (0, 1))):
            return (((), (row,), end), ((join,), (), STOP))

        self.assertEqual(Single(3, (0,), blocks(), span=3).many, 3)
        for row in (("put", 3, 0), ("put", 1, 3), ("put", -1, 0), ("put", 1, -1), ("move", 1, 3), ("add", 1, 0, 3)):
            self.wrong("blocks", 3, (0,), blocks(row=row), span=3)
        for end in (("part", 3, 1, 1), ("part", 0, 0, 1), ("part", 0, 1, 0), ("part", 0, 1, 2), ("go", 0), ("go", 2)):
            self.wrong("blocks", 3, (0,), blocks(end=end), span=3)
        for join in ((3, (0, 1)), (-1, (0, 1)), (2, (0, 3)), (2, (-1, 0))):
            self.wrong("blocks", 3, (0,), blocks(join=join), span=3)

    def test_blocks_that_cannot_be_come_to(self):
        self.wrong("blocks", 1, (0,), (((), (), STOP), ((), (), STOP)))
        self.wrong("blocks", 1, (0,), (((), (), STOP), ((), (), ("go", 1))))

    def test_wrong_kinds_of_parts(self):
        for thing in (None, True, "4", (), [], (4,), b"4", SINGLE):
            self.wrong("many", thing, (0,), SINGLE.blocks)
            self.wrong("span", 4, (0,), SINGLE.blocks, span=thing)
        for thing in (None, True, 0, 1, "0", [], [0], {0}, {0: 0}, (True,), (False,), ("0",), (None,), ((0,),), b"\0"):
            self.wrong("handed", 4, thing, SINGLE.blocks)
        for thing in (None, True, 3, "blocks", list(SINGLE.blocks), {}, SINGLE, LOOP.blocks):
            self.wrong("blocks", 4, (0,), thing)

    def test_wrong_kinds_within_blocks(self):
        def blocks(row=("put", 1, 1), end=("go", 1), joins=((2, (0,)),), **more):
            return (((), more.get("rows", (row,)), end), more.get("block", (joins, (), STOP)))

        self.assertEqual(len(Single(3, (0,), blocks())), 2)
        for joins in (
                None, True, 0, "joins", [], [(2, (0,))], {2: (0,)}, (2, (0,)), (None,), (True,), ("join",), ((2,),),
                ((2, (0,), 0),), ([2, (0,)],), ((2, [0]),), ((2, 0),), ((2, None),), ((True, (0,)),), ((None, (0,)),),
                (("2", (0,)),), ((2, (True,)),), ((2, (None,)),), ((2, ("0",)),), ((2, ((0,),)),),
                (("join", 2, (0,)),)):
            self.wrong("blocks", 3, (0,), blocks(joins=joins))
        for block in (None, True, "block", (), ((), STOP), ((), (), (), STOP), [(), (), STOP], ((), STOP, ())):
            self.wrong("blocks", 3, (0,), blocks(block=block))
        for rows in (None, [], [("put", 1, 1)], ("put", 1, 1), "rows", (None,), (["put", 1, 1],), {}):
            self.wrong("blocks", 3, (0,), blocks(rows=rows))
        for row in (("put", 1), ("put", 1, 1, 1), ("put", True, 1), ("put", 1, True), ("Put", 1, 1), (["put"], 1, 1)):
            self.wrong("blocks", 3, (0,), blocks(row=row))
        for end in (None, ["go", 1], "go", (), ("go",), ("go", True), ("go", 1, 1), ("stop", 1), ("part", 0, 1)):
            self.wrong("blocks", 3, (0,), blocks(end=end))

    def test_defined(self):
        none = (((), (("put", 0, 0),), STOP),)
        self.wrong("defined", 2, (), none)
        self.wrong("defined", 1, (0,), none)
        self.wrong("defined", 1, (), (((), puts(1) * 2, STOP),))
        self.wrong("defined", 1, (0, 0), (((), (), STOP),))
        self.wrong("defined", 2, (0,), (((), (), ("go", 1)), (((0, (0,)),), (), STOP)))
        self.wrong("defined", 2, (0,), (((), (), ("go", 1)), (((1, (0,)), (1, (0,))), (), STOP)))
        self.wrong("defined", 2, (0,), (((), (), ("go", 1)), (((1, (0,)),), (("put", 1, 0),), STOP)))

    def test_joins_of_the_wrong_size(self):
        for sources in ((), (0,), (0, 0, 0)):
            self.wrong("strict", 2, (0,), (((), (), ("part", 0, 1, 1)), (((1, sources),), (), STOP)))
        self.assertEqual(Single(2, (0,), (((), (), ("part", 0, 1, 1)), (((1, (0, 0)),), (), STOP))).many, 2)

    def test_joins_without_edges(self):
        self.wrong("strict", 2, (0,), ((((1, ()),), (), STOP),))
        self.wrong("strict", 2, (0,), ((((1, (0,)),), (), STOP),))
        self.wrong("strict", 2, (0,), ((((1, ()),), (), ("go", 1)), ((), (), STOP)))

    def test_uses_ahead_of_definitions(self):
        ahead = (("move", 0, 1), ("put", 1, 0))
        self.wrong("strict", 2, (), (((), ahead, STOP),))
        self.assertEqual(Single(2, (), (((), (("put", 1, 0), ("move", 0, 1)), STOP),)).many, 2)
        self.wrong("strict", 1, (), (((), (("move", 0, 0),), STOP),))
        self.wrong("strict", 1, (), (((), (("tell", 0), ("put", 0, 0)), STOP),))
        for word in ("add", "sub", "less"):
            self.wrong("strict", 3, (0,), (((), ((word, 2, 0, 1), ("put", 1, 0)), STOP),))
            self.wrong("strict", 3, (0,), (((), ((word, 2, 1, 0), ("put", 1, 0)), STOP),))

    def test_uses_in_ends(self):
        self.wrong("strict", 1, (), (((), (), ("part", 0, 1, 1)), ((), puts(1), STOP)))
        self.assertEqual(Single(1, (), (((), puts(1), ("part", 0, 1, 1)), ((), (), STOP))).many, 1)

    def test_uses_in_joins_stand_on_edges(self):
        def looped(sources):
            return (((), (), ("go", 1)), (((1, sources),), (("put", 2, 1),), ("part", 1, 1, 2)), ((), (), STOP))

        self.assertEqual(Single(3, (0,), looped((0, 2))).many, 3)
        self.assertEqual(Single(3, (0,), looped((0, 1))).many, 3)
        self.wrong("strict", 3, (0,), looped((2, 0)))
        self.wrong("strict", 3, (0,), looped((1, 0)))

    def test_uses_behind_one_of_two_roads(self):
        def forked(*last):
            return (((), (), ("part", 0, 1, 2)), ((), (("put", 1, 1),), ("go", 3)), ((), (), ("go", 3)), last)

        self.wrong("strict", 2, (0,), forked((), (("tell", 1),), STOP))
        self.wrong("strict", 3, (0,), forked(((2, (0, 1)),), (), STOP))
        self.assertEqual(Single(3, (0,), forked(((2, (1, 0)),), (("tell", 2),), STOP)).many, 3)
        self.assertEqual(Single(2, (0,), forked((), (), STOP)).many, 2)

    def test_definitions_that_reach_their_uses_around_a_loop(self):
        rows = (("tell", 1), ("put", 1, 1))
        self.wrong("strict", 2, (0,), (((), (), ("go", 1)), ((), rows, ("part", 0, 1, 2)), ((), (), STOP)))
        later = (((), (), ("go", 1)), ((), (("tell", 1),), ("go", 2)), ((), (("put", 1, 1),), ("part", 0, 1, 3)),
                 ((), (), STOP))
        self.wrong("strict", 2, (0,), later)

    def test_joins_are_done_at_once(self):
        swap = (((), puts(1, 1), ("go", 1)), (((2, (0, 3)), (3, (1, 2))), (), ("part", 2, 1, 2)), ((), (), STOP))
        self.assertEqual(Single(4, (0,), swap).definition(3), (1, 0))
        same = (((), (), ("go", 1)), (((1, (0,)), (2, (1,))), (), STOP))
        self.wrong("strict", 3, (0,), same)

    def test_the_first_wrong_part(self):
        good = (((), (("put", 1, 0),), ("go", 1)), (((2, (0,)),), (), STOP))
        undefined = (((), (("put", 1, 0),), ("go", 1)), (((2, (0, 3)),), (), STOP))
        loose = (((), (("put", 1, 0),), ("go", 1)), (((2, (0, 0)),), (), STOP))
        shapeless = (((), (("put", 1, 0),), ("go", 1)), (((2, (0, 4)),), (), STOP), ((), (), STOP))
        self.assertEqual(Single(3, (0,), good).many, 3)
        self.wrong("many", 49, (0, 0, 0, 0), shapeless, span=1)
        self.wrong("span", 3, (0, 0, 0, 0), shapeless, span=1)
        self.wrong("handed", 3, (0, 0, 0, 0), shapeless)
        self.wrong("blocks", 4, (0,), shapeless)
        self.wrong("defined", 4, (0,), undefined)
        self.wrong("defined", 3, (0, 0), loose)
        self.wrong("strict", 3, (0,), loose)
        self.wrong("many", 0, (0,), good, span=9)
        self.wrong("span", 3, [0], good, span=9)
        self.wrong("handed", 3, [0], loose)

    def test_what_is_made_single_is_single(self):
        for program in random_programs(3, 40, handed=1, span=3):
            single = made_single(program)
            self.assertEqual(len(single), len(program))
            for block in range(len(program)):
                self.assertEqual(single.edges_into(block), program.edges_into(block))
                self.assertEqual([single.definition(one) for one, _ in single.joins(block)],
                                 [(block, 0)] * len(single.joins(block)))

    def test_bad_blocks_and_variables(self):
        for ask in (SINGLE.__getitem__, SINGLE.rows, SINGLE.end, SINGLE.followers, SINGLE.edges_into, SINGLE.joins):
            for block in (-1, 3, True, None, "0", (0,)):
                self.refused(BadBlock, ask, block)
        for variable in (-1, 4, True, False, None, "0", (0,), [0]):
            self.refused(BadVariable, SINGLE.definition, variable)

    def test_returned_lists_are_new(self):
        SINGLE.points.append(None)
        SINGLE.edges_into(1).clear()
        self.assertEqual((len(SINGLE.points), SINGLE.edges_into(1)), (6, [(0, 0), (1, 0)]))
