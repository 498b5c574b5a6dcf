"""Point [23], programs as texts."""

import random

from registerrooms.errors import BadProgram, BadSingle, BadText
from registerrooms.programs import Program
from registerrooms.single import Single
from registerrooms.texts import read, read_single, written, written_single
from tests.samples import FORK, LOOP, NEVER, NO_PROGRAMS, RING, SINGLE, STOP, RoomTest, made_single, random_programs

PLAIN = """many 3
handed 1
span 4
block
take 0
put 1 3
go 1
block
tell 0
add 0 1 2
sub 2 0 1
less 1 0 2
move 2 0
part 0 1 2
block
stop
"""
JOINED = """single 5
handed 0
span 4
block
put 1 1
go 1
block
join 2 0 3
join 4 1 2
tell 2
sub 3 2 1
part 3 1 2
block
stop
"""
MANY_ROWS = Program(8, (((("add", 7, 7, 7),) * 12, ("go", 1)), *(((), ("go", at + 1)) for at in range(1, 15)),
                        ((("put", 7, 7),), ("part", 7, 15, 15))), handed=3, span=8)
MANY_VARIABLES = Single(48, (2, 0, 1), (
    ((), tuple(("put", variable, 7) for variable in range(3, 27)), ("go", 1)),
    ((), tuple(("take", variable) for variable in range(27, 48)) + (("tell", 47),) * 3, STOP)), span=8)
STILL = Single(1, (), (((), (("take", 0),), STOP),), span=2)


def lines_of(text):
    """The lines of a text, with their line feeds."""
    return text.splitlines(keepends=True)


class WrittenTest(RoomTest):
    def test_ordinary(self):
        self.assertEqual(written(read(PLAIN)), PLAIN)
        self.assertEqual(written_single(read_single(JOINED)), JOINED)
        self.assertEqual(read(PLAIN), Program(3, (
            ((("take", 0), ("put", 1, 3)), ("go", 1)),
            ((("tell", 0), ("add", 0, 1, 2), ("sub", 2, 0, 1), ("less", 1, 0, 2), ("move", 2, 0)), ("part", 0, 1, 2)),
            ((), STOP)), handed=1))
        self.assertEqual(read_single(JOINED), Single(5, (0,), (
            ((), (("put", 1, 1),), ("go", 1)),
            (((2, (0, 3)), (4, (1, 2))), (("tell", 2), ("sub", 3, 2, 1)), ("part", 3, 1, 2)),
            ((), (), STOP))))

    def test_least(self):
        self.assertEqual(written(Program(1, (((), STOP),), span=2)), "many 1\nhanded 0\nspan 2\nblock\nstop\n")
        self.assertEqual(written_single(STILL), "single 1\nhanded\nspan 2\nblock\ntake 0\nstop\n")
        self.assertEqual(read_single("single 1\nhanded\nspan 2\nblock\ntake 0\nstop\n"), STILL)

    def test_limits(self):
        self.assertEqual(written(MANY_ROWS).count("add 7 7 7\n"), 12)
        self.assertEqual(written(MANY_ROWS).count("block\n"), 16)
        self.assertIn("part 7 15 15\n", written(MANY_ROWS))
        self.assertTrue(written(MANY_ROWS).startswith("many 8\nhanded 3\nspan 8\n"))
        self.assertTrue(written_single(MANY_VARIABLES).startswith("single 48\nhanded 2 0 1\nspan 8\nblock\nput 3 7\n"))

    def test_read_back(self):
        for program in (LOOP, FORK, NEVER, RING, MANY_ROWS, *random_programs(31, 40, many=3, count=5, handed=2, span=3)):
            self.assertEqual(read(written(program)), program)
            self.assertIs(type(read(written(program))), Program)
            self.assertEqual(written(read(written(program))), written(program))
            self.assertIsNone(self.refused(BadSingle, written_single, program).part)
        singles = [made_single(program) for program in random_programs(32, 30, many=2, count=4, handed=1)]
        for single in (SINGLE, MANY_VARIABLES, STILL, *singles):
            self.assertEqual(read_single(written_single(single)), single)
            self.assertIs(type(read_single(written_single(single))), Single)
            self.assertEqual(written_single(read_single(written_single(single))), written_single(single))
            self.assertIsNone(self.refused(BadProgram, written, single).part)

    def test_all_is_an_integer(self):
        program = read(PLAIN)
        for thing in (program.many, program.handed, program.span, *program.rows(1)[1][1:], *program.end(1)[1:]):
            self.assertIs(type(thing), int)

    def test_no_programs(self):
        for program in NO_PROGRAMS:
            self.assertIsNone(self.refused(BadProgram, written, program).part)
            self.assertIsNone(self.refused(BadSingle, written_single, program).part)


class ReadTest(RoomTest):
    def row(self, text, ask=read):
        """The row of the error with which a text is refused."""
        return self.refused(BadText, ask, text).row

    def rows(self, text, changes, ask=read):
        """Ask for the rows, where lines of a text are changed."""
        for at, line, row in changes:
            lines = lines_of(text)
            lines[at] = line
            self.assertEqual(self.row("".join(lines), ask), row, (at, line))

    def test_no_lines(self):
        for text in ("", "many 1", "many 1\nhanded 0\nspan 2\nblock\nstop", " ", "stop", PLAIN[:-1], PLAIN + " ",
                     PLAIN + "stop", None, True, 0, [PLAIN], ("many 1\n",), PLAIN.encode(), LOOP):
            self.assertIsNone(self.row(text))
            self.assertIsNone(self.row(text, read_single))
        self.assertIsNone(self.row(PLAIN.replace("\n", "\r")))
        self.assertIsNone(self.row("wrong from the beginning\nand not terminated"))

    def test_the_other_kind(self):
        self.assertEqual(self.row(JOINED), 0)
        self.assertEqual(self.row(PLAIN, read_single), 0)
        self.assertEqual(self.row(PLAIN.replace("many", "single"), read_single), 16)
        self.assertEqual(self.row(JOINED.replace("single", "many").replace("5", "4")), 7)

    def test_form(self):
        for text, ask in ((PLAIN, read), (JOINED, read_single)):
            for at, line in enumerate(lines_of(text)):
                words = line[:-1]
                forms = [" " + line, words + " \n", words + "\r\n", "\n", words + "\t\n", "\t" + line, line.upper(),
                         line.capitalize(), words + " -1\n", words + " x\n", words + "\v\n", words + "\u2028\n",
                         words + ".\n", "x" + line, words + "x\n", "\ufeff" + line, words + "\0\n", words + " \n"]
                if " " in words:
                    word, number = words.split(" ")[0], words.split(" ")[-1]
                    front = words[:-len(number)]
                    forms += [words.replace(" ", "  ", 1) + "\n", words.replace(" ", "\t", 1) + "\n", word + " \n",
                              words.replace(" ", "", 1) + "\n", front + "0" + number + "\n", front + "+" + number + "\n",
                              front + "-" + number + "\n", front + number + ".0\n", front + "99\n", front + "\u0661\n",
                              front + "\u00b2\n", front + "\uff11\n", front + "0x1\n", front + "1_0\n", front + "True\n",
                              front + "-1\n", front + "-0\n", front + "00\n", front + "9" * 5000 + "\n",
                              words.replace(" ", ",") + "\n", words.replace(" ", "\u00a0") + "\n", front + "\n"]
                    if word != "join":
                        forms.append(words + " 0 0 0 0\n")
                    if word not in ("handed", "join"):
                        forms.append(word + "\n")
                for form in forms:
                    lines = lines_of(text)
                    lines[at] = form
                    if "".join(lines) != text and (words, form) != ("handed 0", "handed \n"):
                        self.assertEqual(self.row("".join(lines), ask), at, repr(form))
                    lines[-1:] = ["stop now\n", "\n"]
                    if at < len(lines) - 2:
                        self.assertEqual(self.row("".join(lines), ask), at, repr(form))

    def test_numbers_that_cannot_stand(self):
        self.rows(PLAIN, (
            (0, "many 0\n", 0), (0, "many 9\n", 0), (0, "many 10\n", 0), (0, "many 2\n", 9), (0, "many 1\n", 5),
            (0, "many 3 3\n", 0), (0, "many\n", 0), (1, "handed 4\n", 1), (1, "handed\n", 1), (1, "handed 0 1\n", 1),
            (2, "span 1\n", 2), (2, "span 9\n", 2), (2, "span 0\n", 2), (2, "span 3\n", 5), (2, "span\n", 2),
            (4, "take 3\n", 4), (5, "put 3 0\n", 5), (5, "put 1 4\n", 5), (5, "put 1\n", 5), (6, "go 0\n", 6),
            (6, "go 16\n", 6), (6, "go\n", 6), (6, "go 1 1\n", 6), (8, "tell 3\n", 8), (8, "tell 0 0\n", 8),
            (9, "add 3 0 0\n", 9), (9, "add 0 3 0\n", 9), (9, "add 0 0 3\n", 9), (9, "add 0 0\n", 9),
            (9, "add 0 0 0 0\n", 9), (10, "sub 0 0\n", 10), (11, "less 0 0\n", 11), (12, "move 0 3\n", 12),
            (12, "move 0\n", 12), (13, "part 3 1 2\n", 13), (13, "part 0 0 2\n", 13), (13, "part 0 1 0\n", 13),
            (13, "part 0 1 16\n", 13), (13, "part 0 1\n", 13), (15, "stop 0\n", 15)))
        self.assertEqual(self.row("many 1\nhanded 2\nspan 2\nblock\nstop\n"), 1)
        self.assertEqual(self.row("many 2\nhanded 3\nspan 2\nblock\nstop\n"), 1)
        self.assertEqual(read("many 2\nhanded 2\nspan 2\nblock\nstop\n").handed, 2)
        self.assertEqual(self.row("many 8\nhanded 4\nspan 2\nblock\nstop\n"), 1)

    def test_numbers_that_cannot_stand_in_single_programs(self):
        self.rows(JOINED, (
            (0, "single 0\n", 0), (0, "single 49\n", 0), (0, "single 4\n", 8), (0, "single 1\n", 4),
            (0, "single\n", 0), (1, "handed 5\n", 1), (1, "handed 0 1 2 3\n", 1), (1, "handed 0 5\n", 1),
            (2, "span 1\n", 2), (2, "span 9\n", 2), (7, "join\n", 7), (7, "join 5 0 3\n", 7), (7, "join 2 5 3\n", 7),
            (7, "join 2 0 5\n", 7), (9, "tell 5\n", 9), (11, "part 3 0 2\n", 11), (11, "part 3 1 16\n", 11)), read_single)

    def test_what_is_asked_of_the_whole(self):
        # The lines may stand, but these are no programs.
        self.rows(PLAIN, (
            (6, "go 2\n", 16), (6, "go 3\n", 16), (6, "go 15\n", 16), (13, "part 0 1 3\n", 16), (13, "part 0 1 15\n", 16),
            (13, "part 0 1 1\n", 16), (13, "go 1\n", 16), (6, "stop\n", 16)))
        self.rows(JOINED, (
            (1, "handed\n", 14), (1, "handed 0 0\n", 14), (1, "handed 0 1\n", 14), (1, "handed 1\n", 14),
            (1, "handed 0 2 4\n", 14), (4, "put 2 1\n", 14), (5, "go 2\n", 14), (5, "stop\n", 14), (5, "go 9\n", 14),
            (7, "join 2\n", 14), (7, "join 2 0\n", 14), (7, "join 2 0 3 3\n", 14), (7, "join 2" + " 0" * 40 + "\n", 14),
            (7, "join 2 3 0\n", 14), (7, "join 4 0 3\n", 14), (7, "join 3 0 3\n", 14), (10, "sub 3 2 3\n", 14),
            (10, "tell 2\n", 14), (10, "take 2\n", 14)), read_single)
        self.assertEqual(self.row("single 2\nhanded 0\nspan 2\nblock\njoin 1\nstop\n", read_single), 6)
        self.assertEqual(self.row("single 2\nhanded 0\nspan 2\nblock\nstop\n", read_single), 5)

    def test_how_many(self):
        def straight(rows, row="tell 0\n"):
            return "many 1\nhanded 0\nspan 2\nblock\n" + row * rows + "stop\n"

        self.assertEqual(len(read(straight(12)).rows(0)), 12)
        for rows in (13, 24, 25, 100):
            self.assertEqual(self.row(straight(rows)), rows + 5)
            self.assertEqual(self.row(straight(rows, "tell 0\n") + "x\n"), rows + 5)
            self.assertEqual(self.row(straight(rows) + "tell 0\n"), rows + 5)
        head = "single 1\nhanded 0\nspan 2\nblock\n"
        self.assertEqual(len(read_single(head + "tell 0\n" * 24 + "stop\n").rows(0)), 24)
        for rows in (25, 100):
            self.assertEqual(self.row(head + "tell 0\n" * rows + "stop\n", read_single), rows + 5)

        def chain(count):
            return "many 1\nhanded 0\nspan 2\n" + "".join(
                f"block\ngo {at + 1}\n" for at in range(count - 1)) + "block\nstop\n"

        self.assertEqual(len(read(chain(16))), 16)
        self.assertEqual(self.row(chain(17)), 34)
        more = chain(16) + "block\nstop\n" * 5
        self.assertEqual(self.row(more), len(lines_of(more)))
        self.assertEqual(self.row(more + "stop\n"), len(lines_of(more)))

    def test_lines_that_cannot_stand_there(self):
        for text, ask in ((PLAIN, read), (JOINED, read_single)):
            lines = lines_of(text)
            for at, line in enumerate(lines):
                one = "".join(lines[:at] + lines[at + 1:])
                two = "".join(lines[:at + 1] + lines[at:])
                word = line.split()[0]
                if word == "tell" or word in ("take", "put", "add", "sub", "less", "move") and ask is read:
                    self.assertNotEqual(ask(one), ask(text))
                    self.assertNotEqual(ask(two), ask(text))
                elif word in ("put", "sub", "join"):
                    self.assertEqual(self.row(one, ask), 13, line)
                    self.assertEqual(self.row(two, ask), 15, line)
                else:
                    self.assertEqual(self.row(one, ask), at, line)
                    self.assertEqual(self.row(two, ask), at + 1, line)
        self.assertEqual(self.row(JOINED.replace("tell 2\n", "tell 2\ntell 2\njoin 2 0 3\n"), read_single), 11)
        self.assertEqual(self.row(JOINED.replace("put 1 1\n", "put 1 1\njoin 2 0 3\n"), read_single), 5)
        self.assertEqual(self.row(PLAIN.replace("tell 0\n", "join 0 0\ntell 0\n")), 8)
        self.assertEqual(self.row(PLAIN.replace("tell 0\n", "join\ntell 0\n")), 8)

    def test_exchanged(self):
        for text, ask in ((PLAIN, read), (JOINED, read_single)):
            for at in range(4):
                lines = lines_of(text)
                lines[at], lines[at + 1] = lines[at + 1], lines[at]
                self.assertEqual(self.row("".join(lines), ask), at)
        lines = lines_of(JOINED)
        lines[8], lines[9] = lines[9], lines[8]
        self.assertEqual(self.row("".join(lines), read_single), 9)

    def test_not_ended(self):
        lines = lines_of(PLAIN)
        for count in range(1, len(lines)):
            self.assertEqual(self.row("".join(lines[:count])), count)
        lines = lines_of(JOINED)
        for count in range(1, len(lines)):
            self.assertEqual(self.row("".join(lines[:count]), read_single), count)

    def test_lines_behind_the_end(self):
        for more, row in (("stop\n", 16), ("\n", 16), ("tell 0\n", 16), ("block\n", 17), ("block\nblock\n", 17),
                          ("block\nstop\n", 18), ("block\nstop\nblock\n", 19), ("span 4\n", 16), ("join 0\n", 16)):
            self.assertEqual(self.row(PLAIN + more), row, more)
        self.assertEqual(self.row("\n"), 0)
        self.assertEqual(self.row("\n\n\n"), 0)
        self.assertEqual(self.row("\n" + PLAIN), 0)

    def test_the_first_wrong_line(self):
        rng = random.Random(9)
        for text, ask in ((PLAIN, read), (JOINED, read_single)):
            for _ in range(40):
                lines = lines_of(text)
                wrong = sorted(rng.sample(range(len(lines)), 3))
                for at in wrong:
                    lines[at] = rng.choice(("x\n", "tell 99\n", "\n", "handed 0 0 0 0\n", " stop\n", "go 0\n"))
                self.assertEqual(self.row("".join(lines), ask), wrong[0])
