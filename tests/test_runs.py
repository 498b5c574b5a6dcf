"""Point [4], runs."""

import random
from itertools import islice

from registerrooms.errors import BadHanded, BadInputs, BadMost, BadProgram, BadState
from registerrooms.programs import Program
from registerrooms.runs import run, step, telling
from registerrooms.single import Single
from tests.samples import (
    LOOP, NEVER, NO_PROGRAMS, SINGLE, STOP, RoomTest, advance, begin, events, frozen, made_single, next_word,
    random_programs, straight,
)

GOOD = Program(1, (((("put", 0, 1),), ("go", 1)), ((("tell", 0),), ("go", 1))))
LATE = Program(2, (((("tell", 0), ("put", 0, 2), ("tell", 0)), ("go", 1)), ((("add", 1, 1, 0),), ("go", 1))))


class RunTest(RoomTest):
    def test_example(self):
        found = [run(LOOP, (), [3]), run(LOOP, (), [0], most=3), run(LOOP, (), []), run(NEVER, (), [])]
        self.assertEqual(found, [
            [('tell', 3), ('tell', 2), ('tell', 1), ('stop', None)], [('tell', 0), ('tell', 3), ('tell', 2)],
            [('hungry', None)], [('silent', None)]])

    def test_most(self):
        whole = [("tell", 3), ("tell", 2), ("tell", 1), ("stop", None)]
        for most in (1, 2, 3, 4, 5, 1000):
            self.assertEqual(run(LOOP, (), (3,), most=most), whole[:most])
        self.assertEqual(len(run(GOOD, (), [])), 100)
        self.assertEqual(run(GOOD, (), [], most=1000), [("tell", 1)] * 1000)

    def test_stops(self):
        self.assertEqual(run(Program(1, (((), STOP),)), (), []), [("stop", None)])
        self.assertEqual(run(Program(1, (((), ("go", 1)), ((), STOP))), (), [1, 2]), [("stop", None)])

    def test_hungry(self):
        program = straight([("take", 0), ("tell", 0), ("take", 1), ("tell", 1)])
        self.assertEqual(run(program, (), []), [("hungry", None)])
        self.assertEqual(run(program, (), [2]), [("tell", 2), ("hungry", None)])
        self.assertEqual(run(program, (), [2, 3]), [("tell", 2), ("tell", 3), ("stop", None)])
        self.assertEqual(run(program, (), [2, 3, 1]), [("tell", 2), ("tell", 3), ("stop", None)])

    def test_silent(self):
        self.assertEqual(run(NEVER, (), [1, 2, 3]), [("silent", None)])
        self.assertEqual(run(LATE, (), []), [("tell", 0), ("tell", 2), ("silent", None)])
        taking = Program(1, (((("take", 0), ("tell", 0)), ("part", 0, 1, 2)), ((), ("go", 1)), ((), STOP)))
        self.assertEqual(run(taking, (), [1]), [("tell", 1), ("silent", None)])
        self.assertEqual(run(taking, (), [0]), [("tell", 0), ("stop", None)])

    def test_silent_only_when_nothing_more_comes(self):
        counting = Program(4, (
            ((("put", 3, 1),), ("go", 1)),
            ((("add", 0, 0, 3),), ("part", 0, 1, 2)),
            ((("add", 1, 1, 3),), ("part", 1, 1, 3)),
            ((("add", 2, 2, 3),), ("part", 2, 1, 4)),
            ((("tell", 3),), STOP),
        ), span=8)
        self.assertEqual(run(counting, (), []), [("tell", 1), ("stop", None)])
        endless = Program(4, counting.blocks[:4] + (((), ("go", 1)),), span=8)
        self.assertEqual(run(endless, (), []), [("silent", None)])

    def test_rows(self):
        rows = [("put", 2, 3), ("tell", 2), ("move", 1, 0), ("tell", 1), ("add", 2, 0, 2), ("tell", 2),
                ("sub", 2, 1, 0), ("tell", 2), ("put", 2, 3), ("sub", 2, 0, 2), ("tell", 2), ("less", 1, 0, 2),
                ("tell", 1), ("less", 1, 2, 0), ("tell", 1), ("less", 1, 1, 1), ("tell", 1)]
        told = run(straight(rows, handed=1), (2,), [])
        self.assertEqual([number for _, number in told], [3, 2, 1, 0, 3, 1, 0, 0, None])

    def test_what_is_handed_in(self):
        rows = [("tell", 0), ("tell", 1), ("tell", 2)]
        for handed in ((), (1,), (1, 2), (1, 2, 3)):
            told = [number for _, number in run(straight(rows, handed=len(handed)), handed, [])]
            self.assertEqual(told, [*handed, *(0,) * (3 - len(handed)), None])
        crossed = Single(2, (1, 0), (((), (("tell", 0), ("tell", 1)), STOP),))
        self.assertEqual(run(crossed, (2, 3), []), [("tell", 3), ("tell", 2), ("stop", None)])

    def test_part(self):
        program = Program(1, (((), ("part", 0, 1, 2)), ((("put", 0, 2), ("tell", 0)), STOP), ((("tell", 0),), STOP)),
                          handed=1)
        self.assertEqual([run(program, (one,), [])[0][1] for one in range(4)], [0, 2, 2, 2])

    def test_joins_are_done_at_once(self):
        swap = Single(6, (0, 1), (
            ((), (("put", 4, 1), ("put", 5, 3)), ("go", 1)),
            (((2, (0, 3)), (3, (1, 2))), (("tell", 2), ("tell", 3)), ("go", 1))))
        self.assertEqual(run(swap, (1, 2), [], most=6), [("tell", number) for number in (1, 2, 2, 1, 1, 2)])

    def test_joins_on_both_ways_to_one_block(self):
        program = Single(4, (0, 1, 2), (((), (), ("part", 0, 1, 1)), (((3, (1, 2)),), (("tell", 3),), STOP)))
        self.assertEqual(run(program, (1, 2, 3), []), [("tell", 2), ("stop", None)])
        self.assertEqual(run(program, (0, 2, 3), []), [("tell", 3), ("stop", None)])

    def test_runs_of_single_programs(self):
        self.assertEqual(run(SINGLE, (3,), []), run(LOOP, (), [3]))
        self.assertEqual(run(SINGLE, (0,), [], most=3), run(LOOP, (), [0], most=3))

    def test_any_programs(self):
        rng = random.Random(1)
        for program in random_programs(2, 150, many=3, count=5, rows=3, handed=1, span=3):
            single = made_single(program) if program.many * 5 + 15 <= 48 else None
            for _ in range(4):
                handed, inputs = (rng.randrange(3),), [rng.randrange(3) for _ in range(rng.randrange(6))]
                most = rng.randint(1, 20)
                wanted = events(program, handed, inputs, most)
                self.assertEqual(run(program, handed, inputs, most=most), wanted)
                self.assertEqual(list(islice(telling(program, handed, tuple(inputs)), most)), wanted)
                self.assertEqual(run(single, handed, inputs, most=most), wanted)

    def test_telling_raises_when_asked(self):
        for arguments, error in (
                ((None, (), []), BadProgram), ((LOOP, (1,), []), BadHanded), ((LOOP, (), [4]), BadInputs)):
            events_told = telling(*arguments)
            self.refused(error, next, events_told)

    def test_telling_can_be_left_off(self):
        told = telling(GOOD, (), [])
        self.assertEqual([next(told) for _ in range(5000)], [("tell", 1)] * 5000)
        told.close()
        self.assertEqual(list(telling(LATE, (), [])), run(LATE, (), []))
        for event in telling(LOOP, (), [0]):
            self.assertEqual(event, ("tell", 0))
            break

    def test_telling_keeps_no_inputs(self):
        inputs = [2, 2]
        program = straight([("take", 0), ("tell", 0), ("take", 0), ("tell", 0)])
        told = telling(program, (), inputs)
        self.assertEqual(next(told), ("tell", 2))
        inputs[1] = 3
        inputs.append(1)
        self.assertEqual(list(told), [("tell", 2), ("stop", None)])

    def test_inputs_are_not_changed(self):
        inputs = [3, 1]
        run(LOOP, (), inputs)
        list(telling(LOOP, (), inputs))
        self.assertEqual(inputs, [3, 1])

    def test_bad_handed(self):
        two = straight([], handed=2)
        for handed in ((), (1,), (1, 2, 3), [1, 2], (1, 4), (-1, 1), (True, 1), (1, None), ("1", 2), None, 3, "ab"):
            self.refused(BadHanded, run, two, handed, [])
        self.refused(BadHanded, run, SINGLE, (), [])
        self.refused(BadHanded, run, SINGLE, (0, 0), [])
        self.refused(BadHanded, run, LOOP, None, [])

    def test_bad_inputs(self):
        for inputs, index in (
                (None, None), (3, None), ("12", None), ({1: 2}, None), (True, None), ([4], 0), ([0, -1], 1),
                ([0, 1, True], 2), ([None], 0), (("1",), 0), ([1, [2]], 1), ((0, False, 9), 1), (b"\1", None)):
            self.assertEqual(self.refused(BadInputs, run, LOOP, (), inputs).index, index)
            self.assertEqual(self.refused(BadInputs, next, telling(LOOP, (), inputs)).index, index)

    def test_bad_most(self):
        for most in (0, 1001, -1, True, None, "5", (5,), [5]):
            self.refused(BadMost, run, LOOP, (), [], most=most)

    def test_the_first_error(self):
        for program in NO_PROGRAMS:
            self.assertIsNone(self.refused(BadProgram, run, program, None, None, most=0).part)
            self.assertIsNone(self.refused(BadProgram, next, telling(program, None, None)).part)
        self.refused(BadHanded, run, LOOP, (1,), None, most=0)
        self.refused(BadInputs, run, LOOP, (), None, most=0)
        self.refused(BadHanded, next, telling(LOOP, (1,), None))


class StepTest(RoomTest):
    def follow(self, program, handed, inputs):
        """Go along a whole run, at most 200 steps of it, by step and by the plain way of running."""
        coming = list(inputs)
        state = begin(program, handed)
        for _ in range(200):
            now = frozen(program, state)
            word = next_word(program, state)
            if word == "stop":
                self.assertIsNone(step(program, now))
                return
            if word == "take" and not coming:
                return
            taken = coming.pop(0) if word == "take" else None
            advance(program, state, taken)
            self.assertEqual(step(program, now, taken), frozen(program, state))

    def test_whole_runs(self):
        self.follow(LOOP, (), [3])
        self.follow(LOOP, (), [0])
        self.follow(SINGLE, (2,), [])
        self.follow(NEVER, (), [])
        for program in random_programs(4, 60, many=2, count=5, handed=2, span=3):
            for handed in ((0, 0), (1, 2), (2, 0)):
                self.follow(program, handed, [1, 2, 0, 0, 1])
                self.follow(made_single(program), handed, [1, 2, 0, 0, 1])

    def test_a_plain_run(self):
        states = [(0, 0, (0, 0))]
        for taken in (1, None, None, None, None, None):
            states.append(step(LOOP, states[-1], taken))
        self.assertEqual(states, [
            (0, 0, (0, 0)), (0, 1, (1, 0)), (0, 2, (1, 1)), (1, 0, (1, 1)), (1, 1, (1, 1)), (1, 2, (0, 1)),
            (2, 0, (0, 1))])
        self.assertIsNone(step(LOOP, states[-1]))

    def test_a_single_run(self):
        states = [(0, 0, (1, None, None, None))]
        while step(SINGLE, states[-1]) is not None:
            states.append(step(SINGLE, states[-1]))
        self.assertEqual(states, [
            (0, 0, (1, None, None, None)), (0, 1, (1, 1, None, None)), (1, 0, (1, 1, 1, None)),
            (1, 1, (1, 1, 1, None)), (1, 2, (1, 1, 1, 0)), (2, 0, (1, 1, 1, 0))])
        self.assertEqual(step(SINGLE, (1, 2, (1, 1, 2, 1))), (1, 0, (1, 1, 1, 1)))

    def test_both_ways(self):
        self.assertEqual(step(LOOP, (1, 2, (2, 1))), (1, 0, (2, 1)))
        self.assertEqual(step(LOOP, (1, 2, (0, 1))), (2, 0, (0, 1)))

    def test_states_that_do_not_come_about(self):
        self.assertEqual(step(LOOP, (0, 1, (3, 3))), (0, 2, (3, 1)))
        self.assertEqual(step(SINGLE, (1, 0, (3, 2, 1, 0))), (1, 1, (3, 2, 1, 0)))
        self.assertEqual(step(SINGLE, (0, 0, (3, 2, 1, 0))), (0, 1, (3, 1, 1, 0)))

    def test_taken(self):
        self.assertEqual([step(LOOP, (0, 0, (0, 0)), one) for one in range(4)], [(0, 1, (one, 0)) for one in range(4)])
        for taken in (None, 4, -1, True, "1", (1,), [1]):
            self.assertIsNone(self.refused(BadInputs, step, LOOP, (0, 0, (0, 0)), taken).index)
        self.refused(BadInputs, step, LOOP, (0, 0, (0, 0)))
        for state in ((0, 1, (0, 0)), (0, 2, (0, 0)), (1, 0, (0, 0)), (1, 1, (0, 0)), (1, 2, (0, 0))):
            for taken in (0, 3, True, False, "1", ()):
                self.assertIsNone(self.refused(BadInputs, step, LOOP, state, taken).index)

    def test_whatever_is_taken_at_a_stop(self):
        for taken in (None, 0, 9, True, "1", [], (), LOOP):
            self.assertIsNone(step(LOOP, (2, 0, (0, 0)), taken))
        self.assertIsNone(step(straight([("take", 0)]), (0, 1, (0, 0, 0)), 5))

    def test_bad_states(self):
        for state in (
                None, True, 0, "state", (), [], [0, 0, (0, 0)], (0, 0), (0, 0, (0, 0), 0), (3, 0, (0, 0)),
                (-1, 0, (0, 0)), (True, 0, (0, 0)), (0, 3, (0, 0)), (0, -1, (0, 0)), (0, True, (0, 0)),
                (2, 1, (0, 0)), (0, 0, (0,)), (0, 0, (0, 0, 0)), (0, 0, [0, 0]), (0, 0, (0, 4)), (0, 0, (-1, 0)),
                (0, 0, (0, True)), (0, 0, (0, "0")), (0, 0, (0, None)), (0, 0, None), ("0", 0, (0, 0)),
                ((0, 0), (0, 0)), (None, 0, (0, 0)), (0, None, (0, 0)), (0, 0, ((0,), 0)), {0: 0}):
            self.refused(BadState, step, LOOP, state, 1)

    def test_none_only_for_what_is_not_defined_yet(self):
        self.assertEqual(step(SINGLE, (1, 0, (1, 1, 1, None))), (1, 1, (1, 1, 1, None)))
        for state in (
                (0, 0, (None, None, None, None)), (0, 1, (1, None, None, None)), (1, 0, (1, 1, None, None)),
                (1, 1, (1, None, 1, None)), (1, 2, (1, 1, 1, None)), (2, 0, (1, 1, 1, None)),
                (0, 0, (True, None, None, None)), (0, 0, (4, None, None, None)), (0, 0, (1, None, None))):
            self.refused(BadState, step, SINGLE, state)
        forked = Single(2, (0,), (
            ((), (), ("part", 0, 1, 2)), ((), (("put", 1, 1),), ("go", 3)), ((), (), ("go", 3)), ((), (), STOP)))
        self.assertIsNone(step(forked, (3, 0, (0, None))))
        self.assertIsNone(step(forked, (3, 0, (0, 1))))
        self.assertEqual(step(forked, (2, 0, (0, None))), (3, 0, (0, None)))

    def test_the_first_error(self):
        for program in NO_PROGRAMS:
            self.assertIsNone(self.refused(BadProgram, step, program, None, "x").part)
        self.refused(BadState, step, LOOP, None, "x")
        self.refused(BadState, step, LOOP, (2, 1, (0, 0)), 9)
