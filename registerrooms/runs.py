"""Runs of programs, and whether they stop whatever is handed in and comes."""

from registerrooms.errors import BadHanded, BadInputs, BadMost, BadState, TooLarge
from registerrooms.shapes import are_integers, carried, followers_of, is_integer, is_point, is_whole
from registerrooms.single import Single, check_either

MOST_EVENTS = 1000
MOST_STATES = 3000


class Stops:
    """Heights of states, less with each step: evidence that a program stops."""

    def __init__(self, heights):
        self.heights = {state: heights[state] for state in heights}

    def __eq__(self, other):
        return isinstance(other, Stops) and self.heights == other.heights

    def shows(self, program):
        """Whether the heights show that a program stops."""
        check_either(program)
        if not all([is_state(program, state) for state in self.heights]):
            return False
        if not all([is_whole(height) for height in self.heights.values()]):
            return False
        if not all([first_state(program, handed) in self.heights for handed in all_handed(program)]):
            return False
        return all([self.falls_from(program, state) for state in self.heights])

    def falls_from(self, program, state):
        """Whether all states to which a step leads from a state have lesser heights, of at least 0.

        Only of these is it asked: where no step leads to, from no state that has a height, any integer may stand.
        """
        heights = self.heights
        behind = [some for _, some in steps_from(program, state)]
        return all([some in heights and 0 <= heights[some] < heights[state] for some in behind])


class Turns:
    """Numbers with which a program comes back to a state: evidence that it does not stop."""

    def __init__(self, handed, ahead, ring):
        self.handed = handed
        self.ahead = list(ahead)
        self.ring = list(ring)

    def __eq__(self, other):
        return (isinstance(other, Turns) and self.handed == other.handed and self.ahead == other.ahead
                and self.ring == other.ring)

    def shows(self, program):
        """Whether these numbers show that a program does not stop."""
        check_either(program)
        if not are_handed(program, self.handed) or len(self.ring) == 0:
            return False
        begin = walked(program, first_state(program, self.handed), self.ahead)
        return begin is not None and walked(program, begin, self.ring) == begin


class Watch:
    """Notices that states, each one the only one that can follow the one ahead of it, go round.

    It keeps but one of them at a time, as there may be very many.
    """

    def __init__(self, state):
        self.mark = state
        self.steps = 0
        self.patience = 1

    def comes_back(self, state):
        """Whether the next state is the kept one."""
        if state == self.mark:
            return True
        self.steps += 1
        if self.steps == self.patience:
            self.mark = state
            self.steps = 0
            self.patience = 2 * self.patience
        return False


def run(program, handed, inputs, *, most=100):
    """The list of the first events of a run, so many at most."""
    check_run(program, handed, inputs)
    if not is_integer(most, 1, MOST_EVENTS + 1):
        raise BadMost("this is no number of events")
    events = []
    for event in telling(program, handed, inputs):
        events.append(event)
        if len(events) == most:
            break
    return events


def telling(program, handed, inputs):
    """All events of a run, one after the other."""
    check_run(program, handed, inputs)
    coming = list(inputs)
    done = 0
    state = settled(program, first_state(program, handed))
    while state is not None:
        word, number = doing(program, state)
        if word == "stop":
            yield ("stop", None)
            return
        if word == "tell":
            yield ("tell", number)
            state = settled(program, state_behind(program, state, None))
        elif done == len(coming):
            yield ("hungry", None)
            return
        else:
            state = settled(program, state_behind(program, state, coming[done]))
            done += 1
    yield ("silent", None)


def step(program, state, taken=None):
    """The state behind a step, None at the end of a block that stops."""
    check_either(program)
    if not is_state(program, state):
        raise BadState("this is no state of the program")
    if doing(program, state) == ("stop", None):
        return None
    if not is_taken(program, state, taken):
        raise BadInputs(None)
    return state_behind(program, state, taken)


def judge_runs(program):
    """A Stops or a Turns of a program."""
    check_either(program)
    steps = all_steps(program)
    heights = heights_of(steps)
    if len(heights) == len(steps):
        return Stops(heights)
    return turns_of(program, steps, heights)


def does_stop(program):
    """Whether a program stops whatever is handed in and comes."""
    return isinstance(judge_runs(program), Stops)


def most_steps(program):
    """The greatest number of steps of a run, None if some go on for good."""
    found = judge_runs(program)
    if isinstance(found, Turns):
        return None
    return max([found.heights[state] for state in found.heights])


def check_run(program, handed, inputs):
    """Refuse what cannot run with these numbers handed in and these coming."""
    check_either(program)
    if not are_handed(program, handed):
        raise BadHanded("these numbers cannot be handed in")
    if not isinstance(inputs, (list, tuple)):
        raise BadInputs(None)
    for index, number in enumerate(inputs):
        if not is_integer(number, 0, program.span):
            raise BadInputs(index)


def are_handed(program, handed):
    """Whether something is a tuple of numbers that can be handed in."""
    return are_integers(handed, 0, program.span) and len(handed) == count_handed(program)


def count_handed(program):
    """How many numbers are handed in."""
    return len(program.handed) if isinstance(program, Single) else program.handed


def all_handed(program):
    """The ascending list of all tuples of numbers that can be handed in."""
    found = [()]
    for _ in range(count_handed(program)):
        found = [some + (number,) for some in found for number in range(program.span)]
    return found


def first_state(program, handed):
    """The state at the beginning of a run."""
    if not isinstance(program, Single):
        return (0, 0, handed + (0,) * (program.many - len(handed)))
    numbers = [None] * program.many
    for variable, number in zip(program.handed, handed):
        numbers[variable] = number
    return (0, 0, tuple(numbers))


def is_state(program, state):
    """Whether something is a state of a program, whether it comes about or not."""
    if not isinstance(state, tuple) or len(state) != 3 or not is_point(program.blocks, state[:2]):
        return False
    numbers = state[2]
    if not isinstance(numbers, tuple) or len(numbers) != program.many:
        return False
    return all([may_hold(program, state[:2], variable, number) for variable, number in enumerate(numbers)])


def may_hold(program, point, variable, number):
    """Whether a variable may hold this at a point: a number, or None if it may be not defined yet."""
    if number is None:
        return isinstance(program, Single) and not program.is_sure(variable, point)
    return is_integer(number, 0, program.span)


def doing(program, state):
    """What can be noticed of what is done next at a state: a pair of a word and a number or None.

    None for a step that nobody notices; the state None stands for being silent.
    """
    if state is None:
        return ("silent", None)
    block, done, numbers = state
    rows, end = program.blocks[block][-2:]
    if done == len(rows):
        return ("stop", None) if end[0] == "stop" else None
    if rows[done][0] == "take":
        return ("take", None)
    return ("tell", numbers[rows[done][1]]) if rows[done][0] == "tell" else None


def is_taken(program, state, taken):
    """Whether the step from a state takes this, a number or None."""
    if doing(program, state) == ("take", None):
        return is_integer(taken, 0, program.span)
    return taken is None


def state_behind(program, state, taken):
    """The state behind a step that takes this; it is not asked for at the end of a block that stops."""
    block, done, numbers = state
    rows, end = program.blocks[block][-2:]
    if done < len(rows):
        return (block, done + 1, behind_row(rows[done], numbers, program.span, taken))
    way = 1 if end[0] == "part" and numbers[end[1]] == 0 else 0
    return (followers_of(program.blocks, block)[way], 0, behind_edge(program.blocks, (block, way), numbers))


def behind_row(row, numbers, span, taken):
    """The numbers of all variables behind a row that takes this."""
    if row[0] == "tell":
        return numbers
    return numbers[:row[1]] + (result(row, numbers, span, taken),) + numbers[row[1] + 1:]


def result(row, numbers, span, taken):
    """The number that a row gives the variable that it defines."""
    word = row[0]
    if word == "put":
        return row[2]
    if word == "take":
        return taken
    if word == "move":
        return numbers[row[2]]
    one, other = numbers[row[2]], numbers[row[3]]
    if word == "add":
        return (one + other) % span
    if word == "sub":
        return (one - other) % span
    return 1 if one < other else 0


def behind_edge(blocks, edge, numbers):
    """The numbers of all variables behind an edge, on which joins are done."""
    changed = list(numbers)
    for variable, source in carried(blocks, edge):
        changed[variable] = numbers[source]
    return tuple(changed)


def settled(program, state):
    """The first state from this one on at which something can be noticed, None if the run goes on without."""
    watch = Watch(state)
    while doing(program, state) is None:
        state = state_behind(program, state, None)
        if watch.comes_back(state):
            return None
    return state


def walked(program, state, taken):
    """The state behind some steps, None if they do not take this."""
    for some in taken:
        if doing(program, state) == ("stop", None) or not is_taken(program, state, some):
            return None
        state = state_behind(program, state, some)
    return state


def steps_from(program, state):
    """The list of all pairs of what a step from a state can take, and the state behind it."""
    word = doing(program, state)
    if word == ("stop", None):
        return []
    if word == ("take", None):
        return [(number, state_behind(program, state, number)) for number in range(program.span)]
    return [(None, state_behind(program, state, None))]


def all_steps(program):
    """A dict from all states that come about to the steps from them."""
    waiting = [first_state(program, handed) for handed in all_handed(program)]
    steps = {}
    while waiting:
        state = waiting.pop()
        if state not in steps:
            steps[state] = steps_from(program, state)
            waiting.extend([behind for _, behind in steps[state]])
        if len(steps) > MOST_STATES:
            raise TooLarge("more states come about than there may be")
    return steps


def heights_of(steps):
    """A dict from the states from which no steps go on for good to the greatest number of steps from them."""
    left = {state: len(steps[state]) for state in steps}
    sources = {state: [] for state in steps}
    for state in steps:
        for _, behind in steps[state]:
            sources[behind].append(state)
    heights = {}
    waiting = [state for state in steps if left[state] == 0]
    while waiting:
        state = waiting.pop()
        heights[state] = max([heights[behind] + 1 for _, behind in steps[state]], default=0)
        for source in sources[state]:
            left[source] -= 1
            if left[source] == 0:
                waiting.append(source)
    return heights


def turns_of(program, steps, heights):
    """A Turns of a program, if some states have no heights."""
    handed = [some for some in all_handed(program) if first_state(program, some) not in heights][0]
    state = first_state(program, handed)
    taken = []
    places = {}
    while state not in places:
        places[state] = len(taken)
        # From a state without a height a step leads to another one, so that these must come round.
        some, state = [pair for pair in steps[state] if pair[1] not in heights][0]
        taken.append(some)
    return Turns(handed, taken[:places[state]], taken[places[state]:])
