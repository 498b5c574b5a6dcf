"""Point [5], whether a program stops."""

from registerrooms.errors import BadProgram, TooLarge
from registerrooms.programs import Program
from registerrooms.runs import Stops, Turns, does_stop, judge_runs, most_steps, step
from registerrooms.single import Single
from tests.samples import (
    LOOP, NEVER, NO_PROGRAMS, SINGLE, STOP, RoomTest, advance, begin, frozen, made_single, next_word, random_programs,
    straight, tuples,
)

SHORT = Program(1, (((("take", 0),), ("part", 0, 1, 1)), ((), STOP)), span=2)
HANDED = Program(2, (((), ("part", 0, 1, 2)), ((), ("part", 1, 1, 2)), ((), STOP)), handed=2, span=2)
PICKY = Program(1, (((("take", 0),), ("part", 0, 1, 2)), ((("tell", 0),), ("go", 1)), ((), STOP)))


def moves(program, state):
    """All states to which a step leads from a state, by the plain way of running."""
    word = next_word(program, state)
    if word == "stop":
        return []
    found = []
    for taken in range(program.span) if word == "take" else (None,):
        now = [state[0], state[1], dict(state[2])]
        advance(program, now, taken)
        found.append(now)
    return found


def longest(program):
    """How many states come about, and the greatest number of steps of a run, None if some go on for good."""
    many = program.handed if isinstance(program, Program) else len(program.handed)
    waiting = [begin(program, handed) for handed in tuples(range(program.span), many)]
    left = {}
    while waiting:
        state = waiting.pop()
        if frozen(program, state) not in left:
            behind = moves(program, state)
            left[frozen(program, state)] = [frozen(program, some) for some in behind]
            waiting += behind
    count, rounds = len(left), 0
    while left:
        done = [state for state in left if not any(some in left for some in left[state])]
        if not done:
            return count, None
        for state in done:
            del left[state]
        rounds += 1
    return count, rounds - 1


def levels(*counts):
    """Rows that take a number after so many points, and then again, with fillers between."""
    rows = []
    for at, count in enumerate(counts):
        rows += [("tell", 0)] * (count - 1) + ([("take", at)] if at + 1 < len(counts) else [])
    return rows


def straight_with_points(rows, **named):
    """A straight program with one point more than these rows, some of which it does by going to a next block."""
    kept = [row for at, row in enumerate(rows) if at % 13 != 12]
    assert all(row == ("tell", 0) for at, row in enumerate(rows) if at % 13 == 12)
    return straight(kept, **named)


class JudgeTest(RoomTest):
    def test_example(self):
        found = [does_stop(LOOP), most_steps(LOOP), most_steps(NEVER), Turns((), [None], [None]).shows(NEVER),
                 judge_runs(LOOP).shows(LOOP)]
        self.assertEqual(found, [True, 15, None, True, True])

    def test_stops(self):
        for program, steps in (
                (Program(1, (((), STOP),)), 0), (SHORT, 2), (straight([("tell", 0)] * 3), 3), (SINGLE, 14),
                (straight([("take", 0)] * 5, handed=2), 5)):
            found = judge_runs(program)
            self.assertIsInstance(found, Stops)
            self.assertTrue(found.shows(program))
            self.assertIs(does_stop(program), True)
            self.assertEqual(most_steps(program), steps)

    def test_turns(self):
        for program in (NEVER, HANDED, PICKY, Single(1, (0,), (((), (), ("go", 1)), ((), (("tell", 0),), ("go", 1))))):
            found = judge_runs(program)
            self.assertIsInstance(found, Turns)
            self.assertTrue(found.shows(program))
            self.assertIs(does_stop(program), False)
            self.assertIsNone(most_steps(program))

    def test_one_number_handed_in_is_enough(self):
        found = judge_runs(HANDED)
        self.assertEqual(found.handed, (1, 1))
        for handed in ((0, 0), (0, 1), (1, 0)):
            self.assertFalse(Turns(handed, found.ahead, found.ring).shows(HANDED))

    def test_one_number_that_is_taken_is_enough(self):
        found = judge_runs(PICKY)
        self.assertNotEqual(found.ahead[0], 0)
        for number in range(4):
            self.assertIs(Turns((), [number] + found.ahead[1:], found.ring).shows(PICKY), number != 0)

    def test_any_programs(self):
        kinds = set()
        for program in random_programs(5, 150, many=2, count=4, rows=3, handed=1, span=3):
            for some in (program, made_single(program)):
                count, steps = longest(some)
                if count > 3000:
                    self.refused(TooLarge, judge_runs, some)
                    kinds.add(TooLarge)
                    continue
                found = judge_runs(some)
                self.assertEqual(most_steps(some), steps)
                self.assertIs(does_stop(some), steps is not None)
                self.assertTrue(found.shows(some))
                kinds.add(type(found))
        self.assertEqual(kinds, {Stops, Turns, TooLarge})

    def test_states_that_are_allowed(self):
        # The points at which 0, 1, 2 and 3 numbers are taken, each with 1, 5, 25 and 125 states.
        full = straight_with_points(levels(10, 8, 3, 23), span=5)
        self.assertEqual(10 + 5 * 8 + 25 * 3 + 125 * 23, 3000)
        self.assertEqual(len(judge_runs(full).heights), 3000)
        self.assertEqual(most_steps(full), 43)
        over = straight_with_points(levels(1, 5, 4, 23), span=5)
        self.assertEqual(1 + 5 * 5 + 25 * 4 + 125 * 23, 3001)
        for judge in (judge_runs, does_stop, most_steps):
            self.refused(TooLarge, judge, over)

    def test_too_large_though_it_turns(self):
        rows = tuple(("take", one) for one in range(5))
        program = Program(5, (((("take", 0),), ("part", 0, 1, 2)), ((), ("go", 1)), (rows, STOP)))
        self.assertEqual(Turns((), [1, None], [None]).shows(program), True)
        self.assertIs(does_stop(Program(5, program.blocks, span=2)), False)
        self.assertIs(does_stop(program), False)
        wide = Program(8, program.blocks[:2] + ((tuple(("take", one) for one in range(8)), STOP),))
        self.refused(TooLarge, judge_runs, wide)
        self.assertEqual(Turns((), [1, None], [None]).shows(wide), True)

    def test_shows_is_not_too_large(self):
        wide = straight([("tell", 0)] * 5, span=8, handed=3)
        self.refused(TooLarge, judge_runs, wide)
        heights = {}
        for handed in tuples(range(8), 3):
            heights.update({(0, done, handed): 5 - done for done in range(6)})
        self.assertEqual(len(heights), 3072)
        self.assertTrue(Stops(heights).shows(wide))

    def test_what_is_returned_is_new(self):
        judge_runs(LOOP).heights.clear()
        self.assertTrue(judge_runs(LOOP).shows(LOOP))
        judge_runs(NEVER).ring.clear()
        self.assertTrue(judge_runs(NEVER).shows(NEVER))

    def test_no_programs(self):
        for program in NO_PROGRAMS:
            for judge in (judge_runs, does_stop, most_steps, Stops({}).shows, Turns((), [], [None]).shows):
                self.assertIsNone(self.refused(BadProgram, judge, program).part)


class StopsTest(RoomTest):
    def heights(self, program):
        return dict(judge_runs(program).heights)

    def test_a_state_left_out(self):
        for program in (SHORT, LOOP, SINGLE):
            for state in self.heights(program):
                heights = self.heights(program)
                del heights[state]
                self.assertFalse(Stops(heights).shows(program), state)
        self.assertFalse(Stops({}).shows(SHORT))

    def test_heights(self):
        for program, first in ((SHORT, (0, 0, (0,))), (SINGLE, (0, 0, (1, None, None, None)))):
            heights = self.heights(program)
            for state in heights:
                for height in (-1, -7, True, False):
                    self.assertFalse(Stops({**heights, state: height}).shows(program), (state, height))
                if state[0] > 0:
                    self.assertFalse(Stops({**heights, state: 1000}).shows(program), state)
            self.assertTrue(Stops({**heights, first: 1000}).shows(program))

    def test_heights_below_0(self):
        still = straight((), many=1)
        for height in (1, 0, -1, -9):
            self.assertIs(Stops({(0, 0, (0,)): height}).shows(still), True)
        for height in (True, False):
            self.assertIs(Stops({(0, 0, (0,)): height}).shows(still), False)
        heights = self.heights(LOOP)
        last, late = (2, 0, (0, 1)), (2, 0, (3, 3))
        self.assertEqual((heights[last], late in heights), (0, False))
        for height in (0, -1, -9):
            self.assertIs(Stops({**heights, late: height}).shows(LOOP), True)
            self.assertIs(Stops({**heights, last: height}).shows(LOOP), height == 0)
        lower = {state: height - 1 for state, height in heights.items()}
        self.assertFalse(Stops(lower).shows(LOOP))
        # A state from which a step leads to one that has a height of 0 needs more than that, even if none leads to it.
        ahead = (1, 2, (0, 3))
        for height in (1, 0, -1):
            self.assertIs(Stops({**heights, ahead: height, (2, 0, (0, 3)): 0}).shows(LOOP), height == 1)
            self.assertIs(Stops({**heights, ahead: height, (2, 0, (0, 3)): height - 1}).shows(LOOP), height == 1)

    def test_heights_below_0_in_single_programs(self):
        still = Single(1, (0,), (((), (), STOP),), span=3)
        self.assertTrue(Stops({(0, 0, (0,)): -1, (0, 0, (1,)): 4, (0, 0, (2,)): 0}).shows(still))
        self.assertFalse(Stops({(0, 0, (0,)): -1, (0, 0, (1,)): 4}).shows(still))

    def test_heights_need_not_be_least(self):
        for program in (SHORT, LOOP, SINGLE):
            heights = {state: 3 * height + 5 for state, height in self.heights(program).items()}
            self.assertTrue(Stops(heights).shows(program))
            self.assertFalse(Stops({state: 0 for state in heights}).shows(program))

    def test_equal_heights_are_wrong(self):
        self.assertTrue(Stops({(0, 0, (0,)): 2, (0, 1, (0,)): 1, (0, 1, (1,)): 1, (1, 0, (0,)): 0, (1, 0, (1,)): 0})
                        .shows(SHORT))
        self.assertFalse(Stops({(0, 0, (0,)): 1, (0, 1, (0,)): 1, (0, 1, (1,)): 1, (1, 0, (0,)): 0, (1, 0, (1,)): 0})
                         .shows(SHORT))

    def test_states_that_do_not_come_about(self):
        heights = self.heights(SHORT)
        self.assertNotIn((0, 0, (1,)), heights)
        self.assertTrue(Stops({**heights, (0, 0, (1,)): 2}).shows(SHORT))
        self.assertFalse(Stops({**heights, (0, 0, (1,)): 1}).shows(SHORT))
        heights = self.heights(LOOP)
        self.assertFalse(Stops({**heights, (0, 1, (0, 3)): 0}).shows(LOOP))
        self.assertTrue(Stops({**heights, (2, 0, (3, 3)): 0}).shows(LOOP))
        self.assertFalse(Stops({**heights, (1, 0, (3, 0)): 5, (1, 1, (3, 0)): 4, (1, 2, (3, 0)): 3}).shows(LOOP))

    def test_what_is_no_state(self):
        for state in ((2, 0, (0, 4)), (2, 1, (0, 0)), (3, 0, (0, 0)), (2, 0, (0,)), (2, 0, (0, None)),
                      (2, 0, (3, True)), (2, False, (3, 3)), (-1, 0, (0, 0)), (2, 0), None, 0, "state"):
            self.assertFalse(Stops({**self.heights(LOOP), state: 0}).shows(LOOP), state)

    def test_in_another_order(self):
        heights = judge_runs(LOOP).heights
        other = {state: heights[state] for state in reversed(list(heights))}
        self.assertTrue(Stops(other).shows(LOOP))
        self.assertEqual(Stops(other), Stops(heights))

    def test_of_another_program(self):
        self.assertFalse(judge_runs(SHORT).shows(LOOP))
        self.assertFalse(judge_runs(LOOP).shows(SINGLE))
        self.assertFalse(Stops({(0, 0, (0,)): 3, (1, 0, (0,)): 2}).shows(NEVER))

    def test_current_attributes(self):
        heights = self.heights(LOOP)
        given = dict(heights)
        found = Stops(given)
        given.clear()
        self.assertEqual(found.heights, heights)
        self.assertTrue(found.shows(LOOP))
        found.heights[(0, 0, (0, 0))] = 0
        self.assertFalse(found.shows(LOOP))
        found.heights = dict(heights)
        self.assertTrue(found.shows(LOOP))

    def test_equality(self):
        self.assertEqual(Stops({(0, 0, (0,)): 1}), Stops({(0, 0, (0,)): 1}))
        self.all_different(Stops({(0, 0, (0,)): 1}), Stops({(0, 0, (0,)): 2}), Stops({}), Turns((), [], []), {}, None)

    def test_heights_are_not_changed(self):
        heights = self.heights(LOOP)
        given = dict(heights)
        Stops(given).shows(LOOP)
        self.assertEqual(list(given.items()), list(heights.items()))


class TurnsTest(RoomTest):
    def test_ahead_and_ring(self):
        for ahead, ring, right in (
                ([None], [None], True), ([None], [None, None], True), ([None, None], [None], True), ([], [None], False),
                ([None], [], False), ([], [], False), ([0], [None], False), ([None], [0], False),
                ([None], [True], False), ((None,), (None,), True)):
            self.assertIs(Turns((), ahead, ring).shows(NEVER), right, (ahead, ring))

    def test_rings_that_do_not_close(self):
        program = Program(1, (((("take", 0),), ("go", 1)), ((("take", 0),), ("go", 1))))
        self.assertTrue(Turns((), [1, None], [1, None]).shows(program))
        self.assertTrue(Turns((), [1, None], [2, None, 1, None]).shows(program))
        self.assertFalse(Turns((), [1, None], [2, None]).shows(program))
        self.assertFalse(Turns((), [1, None], [1]).shows(program))
        self.assertFalse(Turns((), [1], [None, 1]).shows(program))
        self.assertTrue(Turns((), [1, None, 1], [None, 1]).shows(program))
        for number in (4, -1, None, True):
            self.assertFalse(Turns((), [number, None], [1, None]).shows(program))
            self.assertFalse(Turns((), [1, None], [number, None, 1, None]).shows(program))

    def test_behind_a_stop(self):
        for ahead, ring in (([1, None], [None]), ([1, None], [1]), ([1, None, None], [None]), ([1], [None, None])):
            self.assertFalse(Turns((), ahead, ring).shows(SHORT))

    def test_handed(self):
        found = judge_runs(HANDED)
        for handed in ((), (1,), (1, 1, 1), (1, 2), (True, 1), (1, None), (-1, 1)):
            self.assertFalse(Turns(handed, found.ahead, found.ring).shows(HANDED), handed)
        self.assertFalse(Turns((0,), [None], [None]).shows(NEVER))
        self.assertTrue(Turns((1, 1), [None], [None]).shows(HANDED))

    def test_current_attributes(self):
        ahead, ring = [None], [None]
        found = Turns((), ahead, ring)
        ahead.append(3)
        ring.clear()
        self.assertEqual((found.handed, found.ahead, found.ring), ((), [None], [None]))
        self.assertTrue(found.shows(NEVER))
        found.ring.append(1)
        self.assertFalse(found.shows(NEVER))
        found.ring = [None]
        self.assertTrue(found.shows(NEVER))
        found.handed = (1,)
        self.assertFalse(found.shows(NEVER))

    def test_equality(self):
        self.assertEqual(Turns((1,), [2], [3]), Turns((1,), (2,), (3,)))
        self.all_different(Turns((1,), [2], [3]), Turns((2,), [2], [3]), Turns((1,), [3], [3]), Turns((1,), [2], [2]),
                           Stops({}), None, (1,))

    def test_single_programs(self):
        program = Single(3, (0,), (
            ((), (), ("go", 1)), (((1, (0, 2)),), (("take", 2),), ("part", 1, 1, 2)), ((), (), STOP)))
        self.assertTrue(Turns((1,), [None, 1, None], [1, None]).shows(program))
        self.assertFalse(Turns((1,), [None, 0, None], [1, None]).shows(program))
        self.assertFalse(Turns((0,), [None, 1, None], [1, None]).shows(program))
        # The first time, variable 2 is not defined yet, so that the state is another one.
        self.assertFalse(Turns((1,), [None], [1, None]).shows(program))
        self.assertEqual(step(program, (1, 0, (1, 1, None)), 1), (1, 1, (1, 1, 1)))
