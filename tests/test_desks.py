"""Point [22], desks on which a program is changed."""

import random

from registerrooms.alike import tell_alike
from registerrooms.desks import Desk
from registerrooms.errors import BadBlock, BadEdit, BadProgram, NothingDone, TooLarge
from registerrooms.held import most_held
from registerrooms.making import to_single
from registerrooms.programs import Program
from tests.samples import (
    LOOP, NEVER, NO_PROGRAMS, SINGLE, STOP, RoomTest, random_end, random_programs, random_row, straight,
)

ECHO = Program(2, (((("take", 0), ("tell", 0)), STOP),))
NO_BLOCKS = (-1, 3, 16, True, False, None, "1", (1,), [1])
NO_PLACES = (-1, True, False, None, "0", (0,), [0], 100)
NO_ROWS = (
    None, 0, "tell 0", (), ("tell",), ["tell", 0], ("tell", 2), ("tell", -1), ("tell", True), ("tell", 0, 0), ("put", 0, 4),
    ("put", 0), ("move", 0), ("add", 0, 1), ("sub", 0, 1, 2), ("jump", 0), ("go", 1), STOP, (None, 0), ("less", 0, 1, "1"),
    ("take", None), {"tell": 0}, ("Tell", 0))
# The last three are ends, but block 1 or 2 can't be come to any more.
NO_ENDS = (
    None, 0, "stop", (), ("halt",), ("stop", 0), ["stop"], ("go",), ("go", 0), ("go", 3), ("go", True), ("go", -1),
    ("part", 0, 1), ("part", 2, 1, 2), ("part", 0, 0, 1), ("part", 0, 1, 3), ("part", 0, 1, 2, 2), ("part", True, 1, 2),
    ("tell", 0), ("take", 0), STOP, ("go", 1), ("part", 0, 1, 1))


class Oops(Exception):
    """An error of the tests' own."""


def changed(program, block, rows=None, end=None):
    """A program with other rows or another end in a block."""
    old = program.blocks[block]
    parts = (old[0] if rows is None else tuple(rows), old[1] if end is None else end)
    blocks = program.blocks[:block] + (parts,) + program.blocks[block + 1:]
    return Program(program.many, blocks, handed=program.handed, span=program.span)


class DeskTest(RoomTest):
    def ask(self, desk, program, journal):
        """Ask what is on a desk."""
        self.assertEqual(desk.now, program)
        self.assertIs(type(desk.now), Program)
        self.assertEqual((desk.journal, len(desk)), (journal, len(journal)))
        self.assertIs(type(desk.journal), list)

    def test_examples(self):
        desk = Desk(ECHO)
        late = [desk.put_row(0, 1, ("move", 1, 0)), desk.put_row(0, 2, ("add", 0, 0, 1))]
        self.assertEqual(
            [desk.rooms_now(), desk.is_as_begun(), len(desk), desk.undo(), desk.is_as_begun(), desk.now.rows(0), desk.journal],
            [2, False, 2, ("put", 0, 2, ("add", 0, 0, 1)), True, (("take", 0), ("move", 1, 0), ("tell", 0)),
             [("put", 0, 1, ("move", 1, 0))]])
        self.assertEqual([program.rows(0)[1:] for program in late], [
            (("move", 1, 0), ("tell", 0)), (("move", 1, 0), ("add", 0, 0, 1), ("tell", 0))])

    def test_new(self):
        desk = Desk(LOOP)
        self.ask(desk, LOOP, [])
        self.assertIs(desk.is_as_begun(), True)
        self.refused(NothingDone, desk.undo)
        self.ask(desk, LOOP, [])
        for program in (*NO_PROGRAMS, SINGLE):
            self.assertIsNone(self.refused(BadProgram, Desk, program).part)

    def test_put_row(self):
        for block in range(3):
            rows = LOOP.rows(block)
            for at in range(len(rows) + 1):
                desk = Desk(LOOP)
                row = ("less", 1, 0, 1)
                goal = changed(LOOP, block, rows[:at] + (row,) + rows[at:])
                self.assertEqual(desk.put_row(block, at, row), goal)
                self.ask(desk, goal, [("put", block, at, row)])
                self.assertEqual(desk.undo(), ("put", block, at, row))
                self.ask(desk, LOOP, [])

    def test_take_row(self):
        for block in range(3):
            rows = LOOP.rows(block)
            for at in range(len(rows)):
                desk = Desk(LOOP)
                goal = changed(LOOP, block, rows[:at] + rows[at + 1:])
                self.assertEqual(desk.take_row(block, at), goal)
                self.ask(desk, goal, [("take", block, at)])
                self.assertEqual(desk.undo(), ("take", block, at))
                self.ask(desk, LOOP, [])

    def test_turn_end(self):
        desk = Desk(LOOP)
        for block, end in ((0, ("part", 1, 2, 1)), (2, ("go", 2)), (1, ("go", 2)), (2, ("part", 0, 1, 2)), (1, STOP), (2, STOP)):
            goal = changed(desk.now, block, end=end)
            self.assertEqual(desk.turn_end(block, end), goal)
            self.assertEqual(desk.now.end(block), end)
        self.assertEqual(desk.journal[1:3], [("turn", 2, ("go", 2)), ("turn", 1, ("go", 2))])
        self.assertEqual([desk.undo() for _ in range(6)][-1], ("turn", 0, ("part", 1, 2, 1)))
        self.ask(desk, LOOP, [])
        # An end that is put again is a change, too.
        self.assertEqual(desk.turn_end(2, STOP), LOOP)
        self.ask(desk, LOOP, [("turn", 2, STOP)])

    def test_what_stays(self):
        program = Program(3, LOOP.blocks, handed=2, span=5)
        desk = Desk(program)
        for now in (desk.put_row(0, 0, ("put", 2, 4)), desk.take_row(1, 0), desk.turn_end(0, ("part", 2, 1, 1)), desk.now):
            self.assertEqual((now.many, now.handed, now.span), (3, 2, 5))
        self.assertEqual(program, Program(3, LOOP.blocks, handed=2, span=5))

    def test_generated(self):
        rng = random.Random(91)
        for program in random_programs(92, 30, many=2, count=3, rows=3, handed=1, span=2):
            desk, programs, journal = Desk(program), [program], []
            for _ in range(25):
                block = rng.randrange(3)
                rows = desk.now.rows(block)
                kind = rng.choice(("put", "put", "take", "turn", "undo"))
                if kind == "undo":
                    if journal:
                        self.assertEqual(desk.undo(), journal.pop())
                        programs.pop()
                    else:
                        self.refused(NothingDone, desk.undo)
                else:
                    try:
                        if kind == "put":
                            at, row = rng.randint(0, len(rows)), random_row(rng, 2, 2)
                            change, call = ("put", block, at, row), (desk.put_row, block, at, row)
                            goal = changed(desk.now, block, rows[:at] + (row,) + rows[at:])
                        elif kind == "take":
                            at = rng.randint(0, len(rows))
                            change, call = ("take", block, at), (desk.take_row, block, at)
                            goal = changed(desk.now, block, rows[:at] + rows[at + 1:]) if at < len(rows) else None
                        else:
                            end = random_end(rng, 2, 3)
                            change, call = ("turn", block, end), (desk.turn_end, block, end)
                            goal = changed(desk.now, block, end=end)
                    except BadProgram:
                        self.assertEqual(self.refused(BadProgram, *call).part, "blocks")
                    else:
                        if goal is None:
                            self.refused(BadEdit, *call)
                        else:
                            self.assertEqual(call[0](*call[1:]), goal)
                            programs.append(goal)
                            journal.append(change)
                self.ask(desk, programs[-1], journal)
            self.assertIs(desk.is_as_begun(), tell_alike(desk.now, program))
            self.assertEqual(desk.rooms_now(), most_held(to_single(desk.now)))

    def test_lists_are_new(self):
        desk = Desk(LOOP)
        desk.take_row(0, 0)
        self.assertIsNot(desk.journal, desk.journal)
        desk.journal.clear()
        self.ask(desk, changed(LOOP, 0, LOOP.rows(0)[1:]), [("take", 0, 0)])
        kept = desk.journal
        desk.undo()
        self.assertEqual((kept, desk.journal), ([("take", 0, 0)], []))

    def test_rooms_now(self):
        desk = Desk(straight([("take", 0), ("take", 1), ("tell", 0), ("tell", 1)], many=2))
        self.assertEqual(desk.rooms_now(), 2)
        desk.take_row(0, 2)
        self.assertEqual(desk.rooms_now(), 1)
        large = straight([("put", 0, 1)] * 46, many=2)
        desk = Desk(large)
        self.assertEqual(desk.rooms_now(), most_held(to_single(large)))
        desk.put_row(3, 0, ("put", 0, 1))
        self.refused(TooLarge, desk.rooms_now)
        self.assertEqual(len(desk), 1)
        desk.undo()
        self.assertEqual(desk.rooms_now(), 1)

    def test_is_as_begun(self):
        desk = Desk(LOOP)
        for change, goal in (
                (lambda: desk.put_row(2, 0, ("put", 0, 2)), True), (lambda: desk.turn_end(2, ("go", 2)), False), (desk.undo, True),
                (lambda: desk.put_row(1, 0, ("tell", 1)), False), (desk.undo, True),
                (lambda: desk.put_row(0, 2, ("put", 1, 2)), False), (lambda: desk.put_row(0, 3, ("put", 1, 1)), True),
                (lambda: desk.take_row(0, 1), True), (lambda: desk.take_row(0, 1), True), (lambda: desk.take_row(0, 1), False)):
            change()
            self.assertIs(desk.is_as_begun(), goal, desk.journal)
        self.assertIs(Desk(NEVER).is_as_begun(), True)
        # More pairs come about than there may be.
        rows = [("take", one) for one in range(4)] + [("tell", 0)]
        large = Program(4, ((tuple(rows), ("go", 1)), (tuple(rows), ("go", 1))), span=8)
        self.refused(TooLarge, Desk(large).is_as_begun)


class RefusedTest(RoomTest):
    def unchanged(self, desk, error, call, *args):
        """Ask that a change is refused, and changes nothing."""
        program, journal = desk.now, desk.journal
        found = self.refused(error, call, *args)
        self.assertIs(desk.now, program)
        self.assertEqual((desk.journal, len(desk)), (journal, len(journal)))
        return found

    def desk(self):
        """A desk with a change."""
        desk = Desk(LOOP)
        desk.put_row(0, 0, ("tell", 1))
        return desk

    def test_blocks(self):
        desk = self.desk()
        for block in NO_BLOCKS:
            for at in (0, None, -1):
                for row in (("tell", 0), None):
                    self.unchanged(desk, BadBlock, desk.put_row, block, at, row)
                self.unchanged(desk, BadBlock, desk.take_row, block, at)
            for end in (STOP, None):
                self.unchanged(desk, BadBlock, desk.turn_end, block, end)

    def test_places(self):
        desk = self.desk()
        for block, many in ((0, 3), (1, 2), (2, 0)):
            for at in (*NO_PLACES, many + 1):
                for row in (("tell", 0), None):
                    self.unchanged(desk, BadEdit, desk.put_row, block, at, row)
                self.unchanged(desk, BadEdit, desk.take_row, block, at)
            self.unchanged(desk, BadEdit, desk.take_row, block, many)

    def test_rows(self):
        desk = self.desk()
        for row in NO_ROWS:
            for block, at in ((0, 0), (0, 3), (1, 1), (2, 0)):
                self.assertEqual(self.unchanged(desk, BadProgram, desk.put_row, block, at, row).part, "blocks")

    def test_the_thirteenth_row(self):
        desk = Desk(straight([("tell", 0)] * 11))
        desk.put_row(0, 11, ("tell", 1))
        for at in range(13):
            self.assertEqual(self.unchanged(desk, BadProgram, desk.put_row, 0, at, ("tell", 0)).part, "blocks")
        desk.take_row(0, 3)
        desk.put_row(0, 3, ("tell", 2))
        self.assertEqual(len(desk), 3)

    def test_ends(self):
        desk = self.desk()
        for end in NO_ENDS[:-3]:
            for block in range(2):
                self.assertEqual(self.unchanged(desk, BadProgram, desk.turn_end, block, end).part, "blocks")
        for end in NO_ENDS[-3:]:
            self.assertEqual(self.unchanged(desk, BadProgram, desk.turn_end, 1, end).part, "blocks")
        self.assertEqual(self.unchanged(desk, BadProgram, desk.turn_end, 0, ("go", 2)).part, "blocks")
        self.assertEqual(self.unchanged(desk, BadProgram, desk.turn_end, 0, STOP).part, "blocks")


class BranchTest(RoomTest):
    def test_independent(self):
        desk = Desk(LOOP)
        desk.take_row(0, 0)
        branch = desk.branch()
        self.assertIs(type(branch), Desk)
        self.assertIsNot(branch, desk)
        self.assertEqual((branch.now, branch.journal, len(branch)), (desk.now, desk.journal, 1))
        goal = desk.now
        branch.turn_end(2, ("go", 1))
        self.assertEqual((desk.now, desk.journal), (goal, [("take", 0, 0)]))
        desk.put_row(2, 0, ("tell", 0))
        desk.put_row(2, 0, ("tell", 1))
        self.assertEqual(branch.journal, [("take", 0, 0), ("turn", 2, ("go", 1))])
        self.assertEqual((desk.undo(), branch.undo()), (("put", 2, 0, ("tell", 1)), ("turn", 2, ("go", 1))))
        self.assertEqual((branch.now, branch.undo(), branch.now), (goal, ("take", 0, 0), LOOP))
        self.refused(NothingDone, branch.undo)
        self.assertEqual(desk.journal, [("take", 0, 0), ("put", 2, 0, ("tell", 0))])

    def test_the_same_beginning(self):
        desk = Desk(LOOP)
        desk.put_row(2, 0, ("tell", 1))
        branch = desk.branch()
        self.assertIs(branch.is_as_begun(), False)
        branch.undo()
        self.assertIs(branch.is_as_begun(), True)
        self.assertIs(desk.is_as_begun(), False)

    def test_in_no_trial(self):
        desk = Desk(LOOP)
        desk.take_row(0, 0)
        with desk.trial():
            desk.put_row(2, 0, ("tell", 1))
            branch = desk.branch()
            self.assertEqual((branch.now, branch.journal), (desk.now, desk.journal))
            self.assertEqual([branch.undo(), branch.undo()], [("put", 2, 0, ("tell", 1)), ("take", 0, 0)])
            self.assertEqual(len(desk), 2)
            branch.take_row(1, 0)
        self.assertEqual((desk.journal, branch.journal), ([("take", 0, 0)], [("take", 1, 0)]))
        branch.undo()
        self.assertEqual(branch.now, LOOP)

    def test_its_own_trials(self):
        desk = Desk(LOOP)
        branch = desk.branch()
        with branch.trial() as held:
            self.assertIs(held, branch)
            desk.take_row(0, 0)
            branch.take_row(1, 0)
            self.assertEqual(desk.undo(), ("take", 0, 0))
            desk.take_row(0, 1)
        self.assertEqual((branch.now, desk.journal), (LOOP, [("take", 0, 1)]))


class TrialTest(RoomTest):
    def test_everything_is_as_it_was(self):
        desk = Desk(LOOP)
        first = desk.put_row(2, 0, ("tell", 1))
        with desk.trial() as held:
            self.assertIs(held, desk)
            self.assertEqual((held.now, len(held)), (first, 1))
            held.take_row(2, 0)
            desk.turn_end(2, ("go", 1))
            self.assertEqual(desk.journal[1:], [("take", 2, 0), ("turn", 2, ("go", 1))])
        self.assertEqual((desk.now, desk.journal), (first, [("put", 2, 0, ("tell", 1))]))
        self.assertEqual(desk.undo(), ("put", 2, 0, ("tell", 1)))
        self.assertEqual(desk.now, LOOP)

    def test_undo(self):
        desk = Desk(LOOP)
        desk.take_row(0, 0)
        with desk.trial():
            self.refused(NothingDone, desk.undo)
            self.assertEqual(len(desk), 1)
            desk.take_row(1, 0)
            self.assertEqual(desk.undo(), ("take", 1, 0))
            self.refused(NothingDone, desk.undo)
            desk.take_row(1, 1)
            with desk.trial():
                self.refused(NothingDone, desk.undo)
                desk.take_row(1, 0)
                self.assertEqual((desk.undo(), len(desk)), (("take", 1, 0), 2))
                self.refused(NothingDone, desk.undo)
            self.assertEqual(desk.undo(), ("take", 1, 1))
            self.refused(NothingDone, desk.undo)
        self.assertEqual((desk.undo(), desk.now), (("take", 0, 0), LOOP))

    def test_what_was_undone_comes_back(self):
        desk = Desk(LOOP)
        with desk.trial():
            desk.take_row(0, 0)
            second = desk.take_row(0, 0)
            with desk.trial():
                desk.put_row(0, 0, ("tell", 0))
                desk.undo()
                desk.turn_end(2, ("go", 2))
            self.assertEqual((desk.now, len(desk)), (second, 2))
        self.assertEqual((desk.now, desk.journal), (LOOP, []))

    def test_within_one_another(self):
        desk = Desk(LOOP)
        programs = [LOOP]
        with desk.trial():
            programs.append(desk.take_row(0, 0))
            with desk.trial():
                programs.append(desk.take_row(0, 0))
                with desk.trial() as held, held.trial():
                    desk.put_row(0, 0, ("tell", 0))
                    self.assertEqual(len(desk), 3)
                self.assertEqual((desk.now, len(desk)), (programs[2], 2))
            self.assertEqual((desk.now, desk.journal), (programs[1], [("take", 0, 0)]))
        self.assertEqual((desk.now, desk.journal), (LOOP, []))

    def test_errors_are_passed_on(self):
        desk = Desk(LOOP)
        desk.take_row(0, 0)
        goal = desk.now
        error = Oops("left")
        with self.assertRaises(Oops) as caught:
            with desk.trial():
                desk.take_row(1, 0)
                with desk.trial():
                    desk.take_row(1, 0)
                    raise error
        self.assertIs(caught.exception, error)
        self.assertEqual((desk.now, desk.journal), (goal, [("take", 0, 0)]))
        with self.assertRaises(BadEdit):
            with desk.trial():
                desk.take_row(1, 0)
                desk.take_row(1, 9)
        with desk.trial():
            inner = desk.take_row(1, 0)
            try:
                with desk.trial():
                    desk.take_row(1, 0)
                    raise KeyError(1)
            except KeyError:
                self.assertEqual((desk.now, len(desk)), (inner, 2))
        self.assertEqual((desk.now, desk.journal, desk.undo()), (goal, [("take", 0, 0)], ("take", 0, 0)))

    def test_left_by_return_and_break(self):
        desk = Desk(LOOP)

        def work():
            with desk.trial():
                return desk.take_row(0, 0)

        self.assertEqual(work().rows(0), LOOP.rows(0)[1:])
        for _ in range(2):
            with desk.trial():
                desk.take_row(0, 0)
                break
        self.assertEqual((desk.now, len(desk)), (LOOP, 0))

    def test_entered_later_and_again(self):
        desk = Desk(LOOP)
        trial = desk.trial()
        first = desk.take_row(0, 0)
        for times in range(3):
            with trial as held:
                self.assertIs(held, desk)
                self.assertEqual(len(desk), 1 + times)
                self.refused(NothingDone, desk.undo)
                desk.put_row(2, 0, ("tell", 0))
                desk.undo()
                desk.take_row(1, 0)
            self.assertEqual(len(desk), 1 + times)
            desk.put_row(2, 0, ("tell", 0))
        for _ in range(3):
            desk.undo()
        self.assertEqual(desk.now, first)
        # One that was made, but was not entered, does nothing.
        desk.trial()
        self.assertEqual(desk.undo(), ("take", 0, 0))

    def test_one_within_itself(self):
        desk = Desk(LOOP)
        trial = desk.trial()
        with trial:
            goal = desk.take_row(0, 0)
            with trial:
                desk.take_row(0, 0)
            self.assertEqual((desk.now, len(desk)), (goal, 1))
        self.assertEqual((desk.now, len(desk)), (LOOP, 0))

    def test_attempt(self):
        desk = Desk(LOOP)
        desk.take_row(0, 0)
        goal = desk.now

        def work(held):
            self.assertIs(held, desk)
            self.refused(NothingDone, held.undo)
            held.turn_end(2, ("go", 2))
            return [held.is_as_begun(), len(held), held.attempt(lambda some: len([some.take_row(1, 0), some.journal]))]

        self.assertEqual(desk.attempt(work), [False, 2, 2])
        self.assertEqual((desk.now, desk.journal), (goal, [("take", 0, 0)]))
        self.assertIsNone(desk.attempt(lambda held: None))
        self.assertIs(desk.attempt(lambda held: held), desk)
        self.assertEqual(desk.attempt(Desk.rooms_now), desk.rooms_now())

    def test_errors_of_work(self):
        desk = Desk(LOOP)
        error = Oops("work")

        def work(held):
            held.take_row(0, 0)
            raise error

        with self.assertRaises(Oops) as caught:
            desk.attempt(work)
        self.assertIs(caught.exception, error)
        self.refused(BadEdit, desk.attempt, lambda held: held.take_row(2, 0))
        self.refused(NothingDone, desk.attempt, Desk.undo)
        self.assertEqual((desk.now, desk.journal), (LOOP, []))
