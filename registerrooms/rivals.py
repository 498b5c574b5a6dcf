"""Rivals: variables of which some pairs cannot be in one room."""

from registerrooms.errors import BadRivals, BadVariable, Unlike
from registerrooms.shapes import are_integers, is_ascending, is_integer

MOST_RIVALS = 8
LEAST_CIRCLE = 3


class Rivals:
    """A number of variables, and the pairs of those that are rivals."""

    def __init__(self, many, pairs=()):
        if not is_integer(many, 1, MOST_RIVALS + 1):
            raise BadRivals("many")
        if not are_pairs(many, pairs):
            raise BadRivals("pairs")
        self.many = many
        self.pairs = pairs

    @classmethod
    def circle(cls, many):
        """The rivals of which each is one of the next one, and the last one of the first one."""
        if not is_integer(many, LEAST_CIRCLE, MOST_RIVALS + 1):
            raise BadRivals("many")
        return cls(many, tuple(sorted([(one, one + 1) for one in range(many - 1)] + [(0, many - 1)])))

    def __eq__(self, other):
        return isinstance(other, Rivals) and self.many == other.many and self.pairs == other.pairs

    def __len__(self):
        return len(list(range(self.many)))

    def __iter__(self):
        raise TypeError("rivals are not iterated over")

    def __contains__(self, pair):
        return are_integers(pair, 0, self.many) and tuple(sorted(pair)) in self.pairs

    def __getitem__(self, one):
        if not is_integer(one, 0, self.many):
            raise BadVariable("this is no variable of the rivals")
        return sorted([other for pair in self.pairs for other in pair if one in pair and other != one])

    def __or__(self, other):
        check_like(self, other)
        return Rivals(self.many, tuple(sorted(set(self.pairs + other.pairs))))

    def __sub__(self, other):
        check_like(self, other)
        return Rivals(self.many, tuple([pair for pair in self.pairs if pair not in other.pairs]))

    def __invert__(self):
        pairs = [(one, other) for one in range(self.many) for other in range(one + 1, self.many)]
        return Rivals(self.many, tuple([pair for pair in pairs if pair not in self.pairs]))


def check_rivals(rivals):
    """Refuse what are no rivals."""
    if not isinstance(rivals, Rivals):
        raise BadRivals(None)


def check_like(rivals, other):
    """Refuse two rivals that do not have as many variables."""
    if rivals.many != other.many:
        raise Unlike("these rivals do not have as many variables")


def is_pair(many, pair):
    """Whether something is an ascending pair of variables."""
    return are_integers(pair, 0, many) and len(pair) == 2 and pair[0] < pair[1]


def are_pairs(many, pairs):
    """Whether something is an ascending tuple of ascending pairs of variables."""
    return isinstance(pairs, tuple) and all([is_pair(many, pair) for pair in pairs]) and is_ascending(pairs)
