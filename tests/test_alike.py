"""Point [6], telling alike."""

import random

from registerrooms.alike import Parted, Same, judge_both, tell_alike
from registerrooms.errors import BadProgram, TooLarge, Unlike
from registerrooms.programs import Program
from registerrooms.single import Single
from tests.samples import (
    LOOP, NEVER, NO_PROGRAMS, SINGLE, STOP, RoomTest, made_single, random_program, random_programs, straight, trace,
    tuples,
)

ECHO = straight([("take", 0), ("tell", 0)])
MOVED = straight([("take", 1), ("move", 2, 1), ("tell", 2)])
TWICE = straight([("take", 0), ("add", 0, 0, 0), ("tell", 0)])
TICK = Program(1, (((("put", 0, 1),), ("go", 1)), ((("tell", 0),), ("go", 1))))
TOCK = Program(2, (((("put", 1, 1),), ("go", 2)), ((("tell", 1), ("tell", 1)), ("go", 2)), ((), ("go", 1))))


def parted_by(one, other, handed, inputs):
    """Whether two programs do something that is not the same, going by the plain way of running."""
    return trace(one, handed, inputs, 400) != trace(other, handed, inputs, 400)


class JudgeTest(RoomTest):
    def same(self, one, other):
        """Ask that two programs tell alike, also the other way round."""
        for first, second in ((one, other), (other, one)):
            found = judge_both(first, second)
            self.assertIsInstance(found, Same)
            self.assertIs(tell_alike(first, second), True)
            self.assertTrue(found.shows(first, second))
            self.assertTrue(Same([(after, ahead) for ahead, after in found]).shows(second, first))

    def parted(self, one, other):
        """Ask that two programs do not tell alike, also the other way round; the evidence."""
        for first, second in ((other, one), (one, other)):
            found = judge_both(first, second)
            self.assertIsInstance(found, Parted)
            self.assertIs(tell_alike(first, second), False)
            self.assertTrue(found.shows(first, second))
            self.assertTrue(found.shows(second, first))
            self.assertTrue(parted_by(first, second, found.handed, found.inputs))
        return found

    def test_example(self):
        one = Program(1, (((('take', 0), ('tell', 0)), ('stop',)),))
        other = Program(2, (((('take', 1), ('move', 0, 1), ('tell', 0)), ('stop',)),))
        twice = Program(1, (((('take', 0), ('add', 0, 0, 0), ('tell', 0)), ('stop',)),))
        found = [tell_alike(one, other), tell_alike(one, twice), Parted((), [1]).shows(one, twice),
                 Parted((), [0]).shows(one, twice), judge_both(one, other).shows(one, other)]
        self.assertEqual(found, [True, False, True, False, True])

    def test_each_with_itself(self):
        for program in (LOOP, NEVER, SINGLE, ECHO, TWICE, TICK, TOCK):
            self.same(program, program)

    def test_alike_though_rows_differ(self):
        self.same(ECHO, MOVED)
        self.same(TICK, TOCK)
        self.same(NEVER, Program(2, (((), ("go", 1)), ((("add", 0, 0, 1), ("put", 1, 1)), ("go", 1)))))
        self.same(straight([("put", 0, 0)]), Program(1, (((), ("go", 1)), ((), STOP))))

    def test_plain_with_single(self):
        handed = Program(2, (((("put", 1, 1),), ("go", 1)),) + LOOP.blocks[1:], handed=1)
        self.same(handed, SINGLE)
        self.same(handed, made_single(handed))
        self.same(made_single(handed), SINGLE)
        self.same(LOOP, made_single(LOOP))
        self.parted(LOOP, made_single(Program(2, LOOP.blocks[:1] + (
            ((("tell", 0), ("sub", 0, 0, 1)), ("part", 1, 1, 2)),) + LOOP.blocks[2:])))

    def test_what_they_can_differ_in(self):
        doing = {
            "take": straight([("take", 0)]), "tell": straight([("tell", 0)]),
            "tell other": straight([("put", 0, 1), ("tell", 0)]), "stop": straight([]), "silent": NEVER}
        for name, one in doing.items():
            for title, other in doing.items():
                if name != title:
                    found = self.parted(one, other)
                    self.assertEqual((found.handed, found.inputs), ((), []))
                    self.assertTrue(Parted((), [3, 3]).shows(one, other))

    def test_they_can_differ_late(self):
        rows = [("take", 0), ("tell", 0)] * 5
        for last in (("tell", 0), ("take", 0)):
            self.assertEqual(len(self.parted(straight(rows), straight(rows + [last])).inputs), 5)
        one = straight([("take", 0), ("take", 1), ("less", 2, 0, 1), ("tell", 2)])
        other = straight([("take", 0), ("take", 1), ("put", 2, 1), ("tell", 2)])
        self.assertEqual(len(self.parted(one, other).inputs), 2)
        self.assertFalse(Parted((), [0, 1]).shows(one, other))
        self.assertTrue(Parted((), [1, 1]).shows(one, other))

    def test_taking_is_noticed_though_the_same_is_told(self):
        one = straight([("take", 0), ("tell", 1)])
        other = straight([("tell", 1), ("take", 0)])
        self.parted(one, other)
        self.parted(straight([("take", 0), ("take", 0)]), straight([("take", 0)]))

    def test_one_number_handed_in(self):
        rows = (("put", 2, 3), ("sub", 2, 2, 0), ("tell", 0))
        one = Program(3, ((rows, ("part", 2, 1, 1)), ((), STOP)), handed=2)
        other = Program(3, ((rows, ("part", 2, 1, 2)), ((), STOP), ((), ("go", 2))), handed=2)
        found = self.parted(one, other)
        self.assertEqual((found.handed[0], found.inputs), (3, []))
        for number in range(4):
            for more in range(4):
                self.assertIs(Parted((number, more), []).shows(one, other), number == 3)
        for handed in ((), (3,), (3, 0, 0), (4, 0), (True, 0), (3, None)):
            self.assertFalse(Parted(handed, []).shows(one, other), handed)

    def test_any_programs(self):
        rng = random.Random(6)
        kinds = []
        for program in random_programs(7, 120, many=2, count=3, rows=3, handed=1, span=2):
            self.same(program, made_single(program))
            other = random_program(rng, many=2, count=rng.choice((1, 2, 3)), rows=3, handed=1, span=2)
            runs = [(handed, inputs) for handed in tuples(range(2), 1) for inputs in tuples(range(2), 5)]
            found = judge_both(program, other)
            kinds.append(type(found))
            if isinstance(found, Same):
                self.same(program, other)
                self.assertFalse(any(parted_by(program, other, *some) for some in runs))
            else:
                self.parted(program, made_single(other))
            for handed, inputs in rng.sample(runs, 8):
                self.assertIs(Parted(handed, list(inputs)).shows(program, other),
                              parted_by(program, other, handed, inputs))
        self.assertGreater(kinds.count(Same), 3)
        self.assertGreater(kinds.count(Parted), 30)

    def test_pairs_that_are_allowed(self):
        # The settled states behind 0, 1, 2 and 3 numbers that are taken are 1, 5, 25 and 125 for each row.
        def program(*counts):
            rows = []
            for at, count in enumerate(counts):
                rows += [("tell", 0)] * (count - 1) + [("take", at)]
            return straight(rows[:-1], span=5)

        full, over = program(10, 8, 3, 23), program(1, 5, 4, 23)
        self.assertEqual(len(judge_both(full, full).pairs), 3000)
        self.refused(TooLarge, judge_both, over, over)
        self.refused(TooLarge, tell_alike, over, over)

    def test_too_large_though_they_part(self):
        large = tuple(("take", one) for one in range(1, 4)) + (("tell", 0),) * 9
        one, other = [
            Program(4, (((), ("part", 0, 1, 2)), (large, STOP), (rows, STOP)), handed=1, span=8)
            for rows in ((), (("tell", 0),))]
        self.refused(TooLarge, judge_both, one, other)
        self.refused(TooLarge, tell_alike, other, one)
        self.assertTrue(Parted((0,), []).shows(one, other))
        late = straight(large + (("tell", 0),), many=4, span=8)
        self.refused(TooLarge, judge_both, straight(large, many=4, span=8), late)
        self.assertTrue(Parted((), [1, 2, 3]).shows(straight(large, many=4, span=8), late))
        self.assertFalse(Parted((), [1, 2]).shows(straight(large, many=4, span=8), late))

    def test_shows_is_not_too_large(self):
        rows = [("take", 0), ("take", 1), ("take", 2)] + [("tell", 0)] * 9
        one = straight(rows, span=8)
        self.refused(TooLarge, judge_both, one, one)
        pairs = []
        for done in range(3):
            for some in tuples(range(8), done):
                pairs.append(((0, done, (*some, *(0,) * (3 - done))),) * 2)
        for some in tuples(range(8), 3):
            pairs += [((0, done, some),) * 2 for done in range(3, 13)]
        self.assertGreater(len(pairs), 3000)
        self.assertTrue(Same(pairs).shows(one, one))
        self.assertFalse(Same(pairs[:-1]).shows(one, one))

    def test_what_is_returned_is_new(self):
        judge_both(ECHO, MOVED).pairs.clear()
        self.assertTrue(judge_both(ECHO, MOVED).shows(ECHO, MOVED))
        judge_both(ECHO, TWICE).inputs.clear()
        self.assertTrue(judge_both(ECHO, TWICE).shows(ECHO, TWICE))

    def test_bad_programs(self):
        for ask in (judge_both, tell_alike, Same([]).shows, Parted((), []).shows):
            for wrong in NO_PROGRAMS:
                for one, other in ((wrong, LOOP), (LOOP, wrong), (wrong, SINGLE), (wrong, wrong)):
                    self.assertIsNone(self.refused(BadProgram, ask, one, other).part)

    def test_unlike(self):
        for ask in (judge_both, tell_alike, Same([]).shows, Parted((), []).shows):
            for one, other in (
                    (LOOP, SINGLE), (SINGLE, LOOP), (LOOP, Program(2, LOOP.blocks, handed=1)),
                    (LOOP, Program(2, LOOP.blocks, span=5)), (SINGLE, Single(4, (0,), SINGLE.blocks, span=3)),
                    (LOOP, straight([], many=3, handed=3, span=8))):
                self.refused(Unlike, ask, one, other)
        wide = straight([("take", 0), ("take", 1), ("take", 2)] + [("tell", 0)] * 9, span=8)
        self.refused(Unlike, judge_both, wide, straight([], span=7))


class SameTest(RoomTest):
    def test_pairs_left_out(self):
        for one, other in ((ECHO, MOVED), (LOOP, LOOP), (TICK, TOCK), (SINGLE, SINGLE)):
            pairs = judge_both(one, other).pairs
            for at in range(len(pairs)):
                self.assertFalse(Same(pairs[:at] + pairs[at + 1:]).shows(one, other), (at, pairs))
        self.assertFalse(Same([]).shows(ECHO, MOVED))

    def test_pairs_more_than_once_and_in_any_order(self):
        pairs = judge_both(ECHO, MOVED).pairs
        self.assertTrue(Same(pairs + pairs[::-1]).shows(ECHO, MOVED))
        self.assertTrue(Same(pairs[::-1]).shows(ECHO, MOVED))

    def test_pairs_that_are_not_settled(self):
        pairs = judge_both(MOVED, MOVED).pairs
        quiet = (0, 1, (0, 1, 0))
        self.assertFalse(Same(pairs + [(quiet, quiet)]).shows(MOVED, MOVED))
        self.assertFalse(Same(pairs + [(quiet, None)]).shows(MOVED, MOVED))
        self.assertTrue(Same(pairs + [((0, 3, (1, 2, 3)),) * 2]).shows(MOVED, MOVED))

    def test_pairs_that_do_not_do_the_same(self):
        pairs = judge_both(ECHO, ECHO).pairs
        for more in (
                ((0, 1, (1, 0, 0)), (0, 1, (2, 0, 0))), ((0, 0, (0, 0, 0)), (0, 1, (0, 0, 0))),
                ((0, 2, (0, 0, 0)), (0, 1, (0, 0, 0))), ((0, 2, (0, 0, 0)), None), (None, (0, 2, (0, 0, 0)))):
            self.assertFalse(Same(pairs + [more]).shows(ECHO, ECHO), more)

    def test_what_is_no_pair(self):
        pairs = judge_both(ECHO, ECHO).pairs
        state = (0, 2, (0, 0, 0))
        for more in (None, (), (state,), (state, state, state), [state, state], 0, (state, 0), (state, (0, 2)),
                     (state, (0, 3, (0, 0, 0))), (state, (0, 2, (False, 0, 0))), ((0, 2, (4, 0, 0)), state)):
            self.assertFalse(Same(pairs + [more]).shows(ECHO, ECHO), more)

    def test_silence(self):
        self.assertEqual(judge_both(NEVER, NEVER).pairs, [(None, None)])
        self.assertTrue(Same([(None, None), (None, None)]).shows(NEVER, NEVER))
        self.assertFalse(Same([]).shows(NEVER, NEVER))
        self.assertTrue(Same(judge_both(ECHO, MOVED).pairs + [(None, None)]).shows(ECHO, MOVED))
        for one, other in ((NEVER, ECHO), (ECHO, NEVER), (straight([]), NEVER)):
            self.assertFalse(Same([(None, None)]).shows(one, other))

    def test_of_other_programs(self):
        pairs = judge_both(ECHO, MOVED).pairs
        self.assertFalse(Same(pairs).shows(ECHO, TWICE))
        self.assertFalse(Same(pairs).shows(MOVED, ECHO))

    def test_iteration(self):
        found = judge_both(ECHO, MOVED)
        self.assertEqual(list(found), found.pairs)
        self.assertEqual([pair for pair in found], [pair for pair in found])
        self.assertGreater(len(list(found)), 3)
        found.pairs.append((None, None))
        self.assertEqual(list(found)[-1], (None, None))

    def test_current_attributes(self):
        pairs = list(judge_both(ECHO, MOVED).pairs)
        found = Same(pairs)
        pairs.clear()
        self.assertTrue(found.shows(ECHO, MOVED))
        found.pairs.pop()
        self.assertFalse(found.shows(ECHO, MOVED))
        found.pairs = judge_both(ECHO, MOVED).pairs
        self.assertTrue(found.shows(ECHO, MOVED))

    def test_equality(self):
        self.assertEqual(Same([(None, None)]), Same([(None, None)]))
        self.all_different(Same([(None, None)]), Same([]), Same([(None, None), (None, None)]), Parted((), []), [], None)


class PartedTest(RoomTest):
    def test_inputs(self):
        one = straight([("take", 0), ("take", 0), ("tell", 0)])
        other = straight([("take", 0), ("take", 0), ("tell", 1)])
        for inputs, right in (
                ([], False), ([1], False), ([1, 0], False), ([1, 2], True), ([0, 3], True), ([0, 3, 0], True),
                ([1, 0, 3], False), ([1, 4], False), ([1, -1], False),
                ([1, True], False), ([1, None], False), ([1, 2, 9], False)):
            self.assertIs(Parted((), inputs).shows(one, other), right, inputs)
            self.assertIs(Parted((), inputs).shows(other, one), right, inputs)

    def test_the_end_of_the_inputs(self):
        self.assertTrue(Parted((), []).shows(straight([("take", 0)]), straight([])))
        self.assertFalse(Parted((), []).shows(straight([("take", 0)]), straight([("take", 0), ("take", 0)])))
        self.assertTrue(Parted((), [1]).shows(straight([("take", 0)]), straight([("take", 0), ("take", 0)])))

    def test_programs_that_tell_alike(self):
        for one, other in ((ECHO, MOVED), (LOOP, LOOP), (TICK, TOCK), (NEVER, NEVER), (SINGLE, SINGLE)):
            for inputs in ([], [1], [1, 2, 3]):
                for handed in ((), (1,)):
                    self.assertFalse(Parted(handed, inputs).shows(one, other))

    def test_what_comes_behind_taking_all(self):
        rows = [("take", 0)] + [("tell", 1)] * 8
        one, other = straight(rows + [("tell", 0)]), straight(rows + [("tell", 1)])
        self.assertTrue(Parted((), [2]).shows(one, other))
        self.assertFalse(Parted((), [0]).shows(one, other))

    def test_current_attributes(self):
        inputs = [1]
        found = Parted((), inputs)
        inputs.clear()
        self.assertEqual((found.handed, found.inputs), ((), [1]))
        self.assertTrue(found.shows(ECHO, TWICE))
        found.inputs[0] = 0
        self.assertFalse(found.shows(ECHO, TWICE))
        found.inputs = [3]
        self.assertTrue(found.shows(ECHO, TWICE))
        found.handed = (0,)
        self.assertFalse(found.shows(ECHO, TWICE))

    def test_equality(self):
        self.assertEqual(Parted((1,), [2]), Parted((1,), (2,)))
        self.all_different(Parted((1,), [2]), Parted((2,), [2]), Parted((1,), []), Same([]), None, ((1,), [2]))
