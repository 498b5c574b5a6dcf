"""Whether two programs tell alike whatever is handed in and comes."""

from registerrooms.errors import TooLarge, Unlike
from registerrooms.runs import (
    Watch, all_handed, are_handed, count_handed, doing, first_state, is_state, settled, state_behind,
)
from registerrooms.shapes import is_integer
from registerrooms.single import check_either

MOST_PAIRS = 3000


class Same:
    """Pairs of settled states from which both programs do the same: evidence that they tell alike."""

    def __init__(self, pairs):
        self.pairs = list(pairs)

    def __eq__(self, other):
        return isinstance(other, Same) and self.pairs == other.pairs

    def __iter__(self):
        return iter(self.pairs)

    def shows(self, one, other):
        """Whether the pairs show that two programs tell alike."""
        check_both(one, other)
        if not all([is_settled_pair(one, other, pair) for pair in self.pairs]):
            return False
        known = set(self.pairs)
        if not all([first_pair(one, other, handed) in known for handed in all_handed(one)]):
            return False
        if not all([do_same(one, other, pair) for pair in self.pairs]):
            return False
        return all([behind in known for pair in self.pairs for _, behind in pairs_behind(one, other, pair)])


class Parted:
    """Numbers with which two programs do not do the same: evidence that they do not tell alike."""

    def __init__(self, handed, inputs):
        self.handed = handed
        self.inputs = list(inputs)

    def __eq__(self, other):
        return isinstance(other, Parted) and self.handed == other.handed and self.inputs == other.inputs

    def shows(self, one, other):
        """Whether two programs do not do the same with these numbers."""
        check_both(one, other)
        if not are_handed(one, self.handed):
            return False
        if not all([is_integer(number, 0, one.span) for number in self.inputs]):
            return False
        return do_part(one, other, self.handed, self.inputs)


def judge_both(one, other):
    """A Same or a Parted of two programs."""
    check_both(one, other)
    came = all_pairs(one, other)
    for pair in came:
        if not do_same(one, other, pair):
            return parted_at(came, pair)
    return Same(list(came))


def tell_alike(one, other):
    """Whether two programs tell alike."""
    return isinstance(judge_both(one, other), Same)


def check_both(one, other):
    """Refuse what is no program, and programs that cannot be compared."""
    check_either(one)
    check_either(other)
    if count_handed(one) != count_handed(other) or one.span != other.span:
        raise Unlike("these programs do not have the same numbers")


def is_settled_pair(one, other, pair):
    """Whether something is a pair of settled states of two programs, or of None for being silent."""
    if not isinstance(pair, tuple) or len(pair) != 2:
        return False
    return is_settled(one, pair[0]) and is_settled(other, pair[1])


def is_settled(program, state):
    """Whether something is a settled state of a program, or None for being silent."""
    return state is None or (is_state(program, state) and doing(program, state) is not None)


def first_pair(one, other, handed):
    """The pair of settled states to which the first ones lead with these numbers handed in."""
    return (settled(one, first_state(one, handed)), settled(other, first_state(other, handed)))


def do_same(one, other, pair):
    """Whether both programs do the same next at a pair of settled states."""
    return doing(one, pair[0]) == doing(other, pair[1])


def pair_behind(one, other, pair, taken):
    """The pair of settled states that comes next if both programs take this."""
    return (settled(one, state_behind(one, pair[0], taken)), settled(other, state_behind(other, pair[1], taken)))


def pairs_behind(one, other, pair):
    """The list of all pairs of what is taken at a pair at which both do the same, and the pair that comes next."""
    word = doing(one, pair[0])[0]
    if word == "take":
        return [(number, pair_behind(one, other, pair, number)) for number in range(one.span)]
    if word == "tell":
        return [(None, pair_behind(one, other, pair, None))]
    return []


def all_pairs(one, other):
    """A dict from all pairs that come about by what both do alike to how they came.

    That is the pair ahead and what was taken there, or None and what was handed in; nearer pairs come first.
    """
    came = {}
    for handed in all_handed(one):
        came.setdefault(first_pair(one, other, handed), (None, handed))
    waiting = list(came)
    while waiting:
        ahead = waiting.pop(0)
        if do_same(one, other, ahead):
            for taken, pair in pairs_behind(one, other, ahead):
                if pair not in came:
                    came[pair] = (ahead, taken)
                    waiting.append(pair)
        if len(came) > MOST_PAIRS:
            raise TooLarge("more pairs come about than there may be")
    return came


def parted_at(came, pair):
    """A Parted with the numbers with which a pair came."""
    inputs = []
    ahead, how = came[pair]
    while ahead is not None:
        if how is not None:
            inputs.append(how)
        ahead, how = came[ahead]
    return Parted(how, inputs[::-1])


def do_part(one, other, handed, inputs):
    """Whether two programs do something that is not the same, at the latest behind taking all these numbers."""
    pair = first_pair(one, other, handed)
    watch = Watch(pair)
    done = 0
    while do_same(one, other, pair):
        word = doing(one, pair[0])[0]
        if word == "tell":
            pair = pair_behind(one, other, pair, None)
            if watch.comes_back(pair):
                return False
        elif word == "take" and done < len(inputs):
            pair = pair_behind(one, other, pair, inputs[done])
            watch = Watch(pair)
            done += 1
        else:
            return False
    return True
