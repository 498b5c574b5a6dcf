"""Which variables of a single program have one number, as they are defined alike."""

from registerrooms.held import pairs_among
from registerrooms.shapes import are_integers, check_variable, is_ascending, is_integer, is_whole, joins_of, used_by
from registerrooms.single import check_single


class Numbered:
    """Classes of variables that are defined alike, and ranks that show that no others are."""

    def __init__(self, classes, ranks):
        self.classes = list(classes)
        self.ranks = {pair: ranks[pair] for pair in ranks}

    def __eq__(self, other):
        return isinstance(other, Numbered) and self.classes == other.classes and self.ranks == other.ranks

    def shows(self, single):
        """Whether those of each class are defined alike, and the ranks show that no two of different ones are."""
        check_single(single)
        if not are_classes(single.many, self.classes):
            return False
        forms = all_forms(single)
        together = {pair: True for some in self.classes for pair in pairs_among(some)}
        if not all([are_alike(forms, together, one, other) for one, other in together]):
            return False
        parted = [pair for pair in pairs_among(list(range(single.many))) if pair not in together]
        if len(self.ranks) != len(parted) or not all([is_paired(single.many, pair) for pair in self.ranks]):
            return False
        if not all([pair in self.ranks and is_ranked(self.ranks[pair]) for pair in parted]):
            return False
        return all([self.is_explained(forms, pair) for pair in parted])

    def is_explained(self, forms, pair):
        """Whether the rank of a pair of variables tells why they are not defined alike."""
        rank, place = self.ranks[pair]
        one, other = forms[pair[0]], forms[pair[1]]
        if one.kind != other.kind:
            return rank == 0 and place is None
        if rank <= 0 or not is_integer(place, 0, len(one.used)):
            return False
        before = origins_at(forms, one, other, place)
        return before in self.ranks and self.ranks[before][0] < rank


class Form:
    """How what a variable was moved from is defined: by a kind of definition, with some variables used.

    Whatever the classes, only variables of one kind are defined alike.
    """

    def __init__(self, origin, kind, used):
        self.origin = origin
        self.kind = kind
        self.used = used


def number_all(single):
    """A Numbered of a single program."""
    check_single(single)
    forms = all_forms(single)
    ranks = all_ranks(forms)
    classes = []
    for variable in range(single.many):
        homes = [at for at, some in enumerate(classes) if (some[0], variable) not in ranks]
        if homes:
            classes[homes[0]] = classes[homes[0]] + (variable,)
        else:
            classes.append((variable,))
    return Numbered(classes, ranks)


def are_one(single, one, other):
    """Whether two variables are in one class."""
    check_single(single)
    check_variable(single.many, one)
    check_variable(single.many, other)
    return tuple(sorted([one, other])) not in all_ranks(all_forms(single))


def root(single, one):
    """The variable from which one was moved, itself if it is not defined by a move."""
    check_single(single)
    check_variable(single.many, one)
    return origin_of(definers(single), one)


def definers(single):
    """A dict from the variables that are defined by a row to it."""
    rows = [row for block in range(len(single)) for row in single.rows(block)]
    return {row[1]: row for row in rows if row[0] != "tell"}


def origin_of(rows, variable):
    """The variable from which one was moved by some rows, one after the other."""
    while variable in rows and rows[variable][0] == "move":
        variable = rows[variable][2]
    return variable


def all_forms(single):
    """The list with, for each variable, its form."""
    rows = definers(single)
    joined = {}
    for block in range(len(single)):
        for variable, sources in joins_of(single.blocks, block):
            joined[variable] = (("join", block), sources)
    origins = [origin_of(rows, variable) for variable in range(single.many)]
    return [form_of(rows, joined, origin) for origin in origins]


def form_of(rows, joined, origin):
    """The form of the variables that were moved from one, which is not defined by a move."""
    if origin in joined:
        return Form(origin, joined[origin][0], joined[origin][1])
    if origin not in rows or rows[origin][0] == "take":
        return Form(origin, ("alone", origin), ())
    row = rows[origin]
    return Form(origin, ("put", row[2]) if row[0] == "put" else row[:1], used_by(row))


def origins_at(forms, one, other, place):
    """The ascending pair of what the variables were moved from that two forms use at a place."""
    return tuple(sorted([forms[one.used[place]].origin, forms[other.used[place]].origin]))


def all_ranks(forms):
    """A dict from all ascending pairs of variables that cannot be in one class to their ranks."""
    pairs = pairs_among(list(range(len(forms))))
    ranks = {pair: (0, None) for pair in pairs if forms[pair[0]].kind != forms[pair[1]].kind}
    found = list(ranks)
    rank = 0
    while found:
        rank += 1
        places = {pair: parting_place(forms, ranks, pair) for pair in pairs if pair not in ranks}
        found = [pair for pair in places if places[pair] is not None]
        for pair in found:
            ranks[pair] = (rank, places[pair])
    return {pair: ranks[pair] for pair in pairs if pair in ranks}


def parting_place(forms, ranks, pair):
    """The first place at which two variables of one kind use what is parted, None if there is none."""
    one, other = forms[pair[0]], forms[pair[1]]
    places = [place for place in range(len(one.used)) if origins_at(forms, one, other, place) in ranks]
    return places[0] if places else None


def are_alike(forms, together, one, other):
    """Whether two variables are defined alike, if these pairs of variables are together in classes."""
    if forms[one].kind != forms[other].kind:
        return False
    pairs = [tuple(sorted(pair)) for pair in zip(forms[one].used, forms[other].used)]
    return all([pair[0] == pair[1] or pair in together for pair in pairs])


def are_classes(many, classes):
    """Whether some classes are ascending tuples of all variables, each in one, ordered by their first ones."""
    if not all([are_integers(some, 0, many) and len(some) > 0 and is_ascending(some) for some in classes]):
        return False
    if not is_ascending([some[0] for some in classes]):
        return False
    return sorted([variable for some in classes for variable in some]) == list(range(many))


def is_paired(many, pair):
    """Whether something is a pair of variables."""
    return are_integers(pair, 0, many) and len(pair) == 2


def is_ranked(rank):
    """Whether something is a pair of an integer, and of a place or None."""
    if not isinstance(rank, tuple) or len(rank) != 2 or not is_whole(rank[0]):
        return False
    return rank[1] is None or is_whole(rank[1])
