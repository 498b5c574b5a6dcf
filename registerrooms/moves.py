"""Copies from places to places, all at once, put into a row of moves."""

from registerrooms.errors import BadMoves
from registerrooms.shapes import are_integers, is_ascending, is_integer, is_whole

MOST_PLACES = 5


class Fewest:
    """Moves, and levels that fall by 1 at most with each move: evidence that no fewer moves are enough."""

    def __init__(self, moves, levels):
        self.moves = list(moves)
        self.levels = {held: levels[held] for held in levels}

    def __eq__(self, other):
        return isinstance(other, Fewest) and self.moves == other.moves and self.levels == other.levels

    def shows(self, many, copies, free):
        """Whether the moves do what the copies tell, and the levels show that no fewer ones do."""
        check_copies(many, copies, free)
        if not are_moves(many, self.moves) or not is_right(hold(many, self.moves), copies, free):
            return False
        if not all([is_held(many, held) for held in self.levels]):
            return False
        if not all([is_whole(level) for level in self.levels.values()]):
            return False
        if self.levels.get(held_first(many), 0) < len(self.moves):
            return False
        return all([self.is_low(many, copies, free, held) for held in self.levels])

    def is_low(self, many, copies, free, held):
        """Whether the level of what is held is no more than the moves that are needed from there."""
        level = self.levels[held]
        if level > 0 and is_right(held, copies, free):
            return False
        return level <= 1 or all([self.levels.get(behind, 0) >= level - 1 for behind in all_behind(many, held)])


class Stuck:
    """What can be held behind any moves, none of it right: evidence that no moves are enough."""

    def __init__(self, states):
        self.states = list(states)

    def __eq__(self, other):
        return isinstance(other, Stuck) and self.states == other.states

    def shows(self, many, copies, free):
        """Whether no moves lead out of these, and none of them is right."""
        check_copies(many, copies, free)
        if not all([is_held(many, held) for held in self.states]):
            return False
        known = set(self.states)
        if held_first(many) not in known or any([is_right(held, copies, free) for held in self.states]):
            return False
        return all([behind in known for held in self.states for behind in all_behind(many, held)])


def in_row(many, copies, free):
    """A Fewest or a Stuck for copies between so many places, of which some are free."""
    check_copies(many, copies, free)
    found, right = search(many, copies, free)
    if right is None:
        return Stuck(list(found))
    most = len(found[right])
    return Fewest(found[right], {held: most - len(found[held]) for held in found if len(found[held]) < most})


def count_moves(many, copies, free):
    """The least number of moves, None if no moves are enough."""
    found = in_row(many, copies, free)
    return None if isinstance(found, Stuck) else len(found.moves)


def hold(many, moves):
    """The tuple with, for each of so many places, the place that first held what it holds behind some moves."""
    if not is_integer(many, 1, MOST_PLACES + 1) or not are_moves(many, moves):
        raise BadMoves("these are no moves between so many places")
    held = held_first(many)
    for move in moves:
        held = behind_move(held, move)
    return held


def check_copies(many, copies, free):
    """Refuse what is no number of places, no copies between them, or no free places."""
    if not is_integer(many, 1, MOST_PLACES + 1) or not are_copies(many, copies) or not are_free(many, copies, free):
        raise BadMoves("these are no copies between so many places")


def are_copies(many, copies):
    """Whether something is a dict from some places to places."""
    if not isinstance(copies, dict):
        return False
    return all([is_integer(place, 0, many) and is_integer(copies[place], 0, many) for place in copies])


def are_free(many, copies, free):
    """Whether something is an ascending tuple of places to which nothing is copied."""
    return are_integers(free, 0, many) and is_ascending(free) and not any([place in copies for place in free])


def are_moves(many, moves):
    """Whether something is a list or a tuple of moves."""
    return isinstance(moves, (list, tuple)) and all([is_move(many, move) for move in moves])


def is_move(many, move):
    """Whether something is a pair of two different places."""
    return are_integers(move, 0, many) and len(move) == 2 and move[0] != move[1]


def is_held(many, held):
    """Whether something is a tuple with, for each place, a place that held it first."""
    return are_integers(held, 0, many) and len(held) == many


def held_first(many):
    """What so many places hold at the beginning."""
    return tuple(range(many))


def is_right(held, copies, free):
    """Whether each place that is not free holds what the copies tell, or what it held first."""
    return all([place in free or held[place] == copies.get(place, place) for place in range(len(held))])


def behind_move(held, move):
    """What is held behind a move."""
    place, source = move
    return held[:place] + (held[source],) + held[place + 1:]


def all_moves(many):
    """The ascending list of all moves between so many places."""
    return [(place, source) for place in range(many) for source in range(many) if place != source]


def all_behind(many, held):
    """The list of what is held behind each move."""
    return [behind_move(held, move) for move in all_moves(many)]


def search(many, copies, free):
    """What is held behind moves, up to the first that is right, and this one, None if none is.

    The former is a dict to tuples of as few moves as possible, in which what is held behind fewer comes first.
    """
    found = {held_first(many): ()}
    waiting = list(found)
    while waiting:
        held = waiting.pop(0)
        if is_right(held, copies, free):
            return found, held
        for move in all_moves(many):
            behind = behind_move(held, move)
            if behind not in found:
                found[behind] = found[held] + (move,)
                waiting.append(behind)
    return found, None
