"""Programs for the tests, and a plain way of running them that shares no code with the package."""

import random
import unittest

from registerrooms.errors import RoomError
from registerrooms.programs import Program
from registerrooms.single import Single

STOP = ("stop",)

LOOP = Program(2, (
    ((("take", 0), ("put", 1, 1)), ("go", 1)),
    ((("tell", 0), ("sub", 0, 0, 1)), ("part", 0, 1, 2)),
    ((), STOP),
))
FORK = Program(1, (((), ("part", 0, 1, 2)), ((), ("go", 3)), ((), ("go", 3)), ((), STOP)))
NEVER = Program(1, (((), ("go", 1)), ((), ("go", 1))))
RING = Program(1, (((), ("part", 0, 1, 2)), ((), ("part", 0, 2, 3)), ((), ("part", 0, 1, 3)), ((), STOP)))
SINGLE = Single(4, (0,), (
    ((), (("put", 1, 1),), ("go", 1)),
    (((2, (0, 3)),), (("tell", 2), ("sub", 3, 2, 1)), ("part", 3, 1, 2)),
    ((), (), STOP),
))

# What is neither a plain nor a single program.
NO_PROGRAMS = (None, True, 0, "loop", (), [], {}, LOOP.blocks, Program)


class RoomTest(unittest.TestCase):
    """A test that can ask how a call is refused."""

    def refused(self, error, call, *args, **named):
        """The error with which a call is refused."""
        with self.assertRaises(RoomError) as held:
            call(*args, **named)
        self.assertIs(type(held.exception), error, (args, named))
        self.assertIsInstance(held.exception, ValueError)
        return held.exception

    def all_different(self, *things):
        """Ask that no two things are equal, in either order, but each is equal to itself."""
        for at, one in enumerate(things):
            for place, other in enumerate(things):
                self.assertIs(one == other, at == place, (at, place))
                self.assertIs(one != other, at != place, (at, place))


def straight(rows, **named):
    """A plain program that does some rows one after the other and stops, whatever blocks it needs for them."""
    named.setdefault("many", 3)
    blocks = []
    rows = list(rows)
    while len(rows) > 12:
        blocks.append((tuple(rows[:12]), ("go", len(blocks) + 1)))
        rows = rows[12:]
    blocks.append((tuple(rows), STOP))
    return Program(named.pop("many"), tuple(blocks), **named)


def random_row(rng, many, span, words=("put", "move", "add", "sub", "less", "take", "tell")):
    """Any row."""
    word = rng.choice(words)
    count = {"put": 1, "move": 2, "add": 3, "sub": 3, "less": 3, "take": 1, "tell": 1}[word]
    row = (word,) + tuple(rng.randrange(many) for _ in range(count))
    return row + (rng.randrange(span),) if word == "put" else row


def random_end(rng, many, count):
    """Any end of a block in a program of so many blocks."""
    word = rng.choice(("go", "part", "part", "stop")) if count > 1 else "stop"
    if word == "stop":
        return STOP
    if word == "go":
        return ("go", rng.randrange(1, count))
    return ("part", rng.randrange(many), rng.randrange(1, count), rng.randrange(1, count))


def come_to(ends):
    """The blocks that can be come to, given the ends of all."""
    seen, waiting = {0}, [0]
    while waiting:
        for target in targets(ends[waiting.pop()]):
            if target not in seen:
                seen.add(target)
                waiting.append(target)
    return seen


def targets(end):
    """The blocks to which an end leads."""
    return {"go": end[1:], "part": end[2:], "stop": ()}[end[0]]


def random_program(rng, *, many=2, count=4, rows=3, handed=0, span=2, words=None):
    """Any plain program with so many variables and blocks, and so many rows in a block at most."""
    while True:
        ends = [random_end(rng, many, count) for _ in range(count)]
        if len(come_to(ends)) == count:
            break
    more = () if words is None else (words,)
    bodies = [tuple(random_row(rng, many, span, *more) for _ in range(rng.randint(0, rows))) for _ in ends]
    return Program(many, tuple(zip(bodies, ends)), handed=handed, span=span)


def random_programs(seed, times, **named):
    """So many such programs, the same for the same seed."""
    rng = random.Random(seed)
    return [random_program(rng, **named) for _ in range(times)]


def made_single(program):
    """A single program that does the same as a plain one, with a join for each variable in each block but 0."""
    count = program.many
    names = {}
    for block in range(1, len(program)):
        for variable in range(program.many):
            names[block, variable] = count
            count += 1
    bodies, lasts = [], []
    for block in range(len(program)):
        now = [names.get((block, variable), variable) for variable in range(program.many)]
        rows = []
        if block == 0:
            rows = [("put", variable, 0) for variable in range(program.handed, program.many)]
        for row in program.rows(block):
            word, rest = row[0], row[1:]
            used = {"put": (), "take": (), "tell": rest}.get(word, rest[1:])
            new = [now[variable] for variable in used]
            if word == "tell":
                rows.append((word, *new))
                continue
            now[rest[0]] = count
            rows.append((word, count, rest[1]) if word == "put" else (word, count, *new))
            count += 1
        end = program.end(block)
        if end[0] == "part":
            end = ("part", now[end[1]], *end[2:])
        bodies.append((tuple(rows), end))
        lasts.append(now)
    blocks = []
    for block, (rows, end) in enumerate(bodies):
        into = [source for source, (_, last) in enumerate(bodies) for target in targets(last) if target == block]
        joins = () if block == 0 else tuple(
            (names[block, variable], tuple(lasts[source][variable] for source in into))
            for variable in range(program.many))
        blocks.append((joins, rows, end))
    return Single(count, tuple(range(program.handed)), tuple(blocks), span=program.span)


def begin(program, handed):
    """The first state, as a list of the block, the rows that are done, and a dict of numbers."""
    if isinstance(program, Single):
        return [0, 0, dict(zip(program.handed, handed))]
    return [0, 0, {variable: dict(enumerate(handed)).get(variable, 0) for variable in range(program.many)}]


def frozen(program, state):
    """Such a state as the package has it."""
    return (state[0], state[1], tuple(state[2].get(variable) for variable in range(program.many)))


def next_word(program, state):
    """The word of the row or end that is done next."""
    block, done, _ = state
    rows = program.rows(block)
    return rows[done][0] if done < len(rows) else program.end(block)[0]


def advance(program, state, taken):
    """Do the next row, or go over the end; the number that is told, if one is."""
    block, done, numbers = state
    if done == len(program.rows(block)):
        cross(program, state)
        return None
    word, *rest = program.rows(block)[done]
    state[1] += 1
    if word == "tell":
        return numbers[rest[0]]
    if word in ("put", "take"):
        numbers[rest[0]] = rest[1] if word == "put" else taken
        return None
    one, *more = [numbers[variable] for variable in rest[1:]]
    if word == "move":
        numbers[rest[0]] = one
    elif word == "add":
        numbers[rest[0]] = one + more[0] if one + more[0] < program.span else one + more[0] - program.span
    elif word == "sub":
        numbers[rest[0]] = one - more[0] if one >= more[0] else one - more[0] + program.span
    else:
        numbers[rest[0]] = int(one < more[0])
    return None


def cross(program, state):
    """Go over the end of a block that does not stop."""
    block, _, numbers = state
    end = program.end(block)
    way = 0 if end[0] == "go" or numbers[end[1]] != 0 else 1
    target = targets(end)[way]
    if isinstance(program, Single):
        edge = program.edges_into(target).index((block, way))
        joined = {variable: numbers[sources[edge]] for variable, sources in program.joins(target)}
        numbers.update(joined)
    state[:] = [target, 0, numbers]


def trace(program, handed, inputs, most):
    """What is done one after the other, at most so much: what is taken and told, and how it ends."""
    state, coming, found = begin(program, handed), list(inputs), []
    seen = set()
    while len(found) < most:
        word = next_word(program, state)
        if word == "stop":
            return found + [("stop", None)]
        if word == "take" and not coming:
            return found + [("hungry", None)]
        if word in ("take", "tell"):
            seen = set()
        elif frozen(program, state) in seen:
            return found + [("silent", None)]
        seen.add(frozen(program, state))
        taken = coming.pop(0) if word == "take" else None
        told = advance(program, state, taken)
        if word in ("take", "tell"):
            found.append((word, taken if word == "take" else told))
    return found


def events(program, handed, inputs, most):
    """The first events of a run, so many at most."""
    found = trace(program, handed, inputs, 4 * most + len(inputs))
    return [event for event in found if event[0] != "take"][:most]


def tuples(numbers, length):
    """All tuples of so many of some numbers."""
    return [()] if length == 0 else [(*some, number) for some in tuples(numbers, length - 1) for number in numbers]
