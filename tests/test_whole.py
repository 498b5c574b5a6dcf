"""The whole: programs made single and plain again tell alike, in as few rooms as are held at one point."""

import itertools

from registerrooms.alike import judge_both, tell_alike
from registerrooms.back import has_spare, rebuilt, to_plain
from registerrooms.desks import Desk
from registerrooms.errors import TooLarge
from registerrooms.held import clashes, colour, held_at, most_held, rivals_of
from registerrooms.making import names_of, to_single
from registerrooms.programs import Program
from registerrooms.rooms import fewest, fewest_rooms, greatest_crowd
from registerrooms.runs import run
from registerrooms.texts import read, read_single, written, written_single
from tests.samples import FORK, LOOP, NEVER, RING, STOP, RoomTest, events, random_programs, trace, tuples
from tests.test_held import COUNT


def small_programs():
    """All programs of one and two blocks with a row in each, of one variable, and some of up to four."""
    rows = [("put", 0, 1), ("add", 0, 0, 0), ("less", 0, 0, 0), ("take", 0), ("tell", 0)]
    found = []
    for one, other in itertools.product(rows, repeat=2):
        for first, last in itertools.product((("go", 1), ("part", 0, 1, 1)), (STOP, ("go", 1), ("part", 0, 1, 1))):
            found.append(Program(1, (((one,), first), ((other,), last)), handed=1, span=2))
    for count in (1, 2, 3, 4):
        for handed in range(3):
            found += random_programs(100 * count + handed, 12, many=3, count=count, rows=3, handed=handed, span=2)
    return found + [LOOP, FORK, NEVER, RING, COUNT]


class WholeTest(RoomTest):
    def test_made_single_and_plain_again(self):
        for program in small_programs():
            single = to_single(program)
            found = colour(single)
            self.assertEqual(len(set(found.rooms)), most_held(single))
            self.assertEqual(len(held_at(single, found.point)), most_held(single))
            plain = to_plain(single, found.rooms)
            self.assertEqual(plain.many, most_held(single) + has_spare(single, found.rooms))
            self.assertEqual(plain, rebuilt(program))
            for one, other in itertools.combinations((program, single, plain), 2):
                self.assertTrue(tell_alike(one, other))
                self.assertTrue(judge_both(one, other).shows(one, other))
            for handed in tuples(range(program.span), program.handed):
                for inputs in tuples(range(program.span), 2):
                    goal = events(program, handed, inputs, 30)
                    self.assertEqual([run(one, handed, inputs, most=30) for one in (program, single, plain)], [goal] * 3)
                    self.assertEqual(trace(plain, handed, inputs, 40), trace(program, handed, inputs, 40))

    def test_again_and_again(self):
        for program in random_programs(104, 15, many=2, count=3, rows=2, handed=1, span=2):
            many = program.many
            for _ in range(3):
                program, before = rebuilt(program), program
                self.assertTrue(tell_alike(program, before))
                self.assertLessEqual(program.many, many + 1)

    def test_rooms_of_plain_programs(self):
        for program in random_programs(105, 25, many=4, count=3, rows=4, handed=2, span=2):
            rivals = rivals_of(program)
            self.assertEqual(list(rivals.pairs), clashes(program))
            self.assertTrue(fewest(rivals).shows(rivals))
            self.assertGreaterEqual(fewest_rooms(rivals), len(greatest_crowd(rivals)))
            self.assertGreaterEqual(len(greatest_crowd(rivals)), most_held(program))

    def test_texts(self):
        for program in small_programs()[::3]:
            single, plain = to_single(program), rebuilt(program)
            self.assertEqual((read(written(plain)), read_single(written_single(single))), (plain, single))
            self.assertEqual(len(names_of(program)), single.many)

    def test_on_a_desk(self):
        for program in random_programs(106, 20, many=3, count=3, rows=3, handed=1, span=2):
            desk = Desk(program)
            self.assertEqual(desk.rooms_now(), most_held(to_single(program)))
            for block in range(len(program)):
                for at in range(len(program.rows(block))):
                    with desk.trial():
                        self.assertEqual(desk.take_row(block, at), desk.now)
                        self.assertIs(desk.is_as_begun(), tell_alike(desk.now, program))
                        try:
                            self.assertIs(tell_alike(rebuilt(desk.now), program), desk.is_as_begun())
                        except TooLarge:
                            self.assertGreater(len(program.rows(block)), 3)
            self.assertEqual((desk.now, desk.journal), (program, []))
