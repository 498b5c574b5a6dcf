"""Variables that are held in registers, and how often they must be loaded again."""

from registerrooms.errors import BadMentions
from registerrooms.shapes import are_integers, check_limit, is_ascending, is_integer, is_whole

MOST_MENTIONS = 12
MOST_MENTIONED = 6
MOST_REGISTERS = 4
BEGINNING = (0, ())


class Loads:
    """A number of loads, what is held with so many, and floors that show that fewer are not enough."""

    def __init__(self, number, keeping, floors):
        self.number = number
        self.keeping = [tuple(held) for held in keeping]
        self.floors = {place: floors[place] for place in floors}

    def __eq__(self, other):
        return (isinstance(other, Loads) and self.number == other.number and self.keeping == other.keeping
                and self.floors == other.floors)

    def shows(self, row, limit):
        """Whether so many loads are enough, and the floors show that fewer are not."""
        number = loads(row, limit, self.keeping)
        if not is_whole(self.number) or number != self.number:
            return False
        if not all([is_place(row, limit, place) for place in self.floors]):
            return False
        if not all([is_whole(floor) for floor in self.floors.values()]):
            return False
        if BEGINNING not in self.floors or self.floors[BEGINNING] != number:
            return False
        return all([self.is_floor(row, limit, place) for place in self.floors])

    def is_floor(self, row, limit, place):
        """Whether no fewer loads than the floor of a place come behind it, if this is true of those behind it."""
        floors = self.floors
        if place[0] == len(row):
            return floors[place] <= 0
        least = floors[place] - count_load(row, place)
        return all([behind in floors and floors[behind] >= least for behind in places_after(row, limit, place)])


def fewest_loads(row, limit):
    """A Loads of a row of mentions."""
    check_mentions(row, limit)
    floors = all_floors(row, limit)
    keeping = []
    place = BEGINNING
    while place[0] < len(row):
        least = floors[place] - count_load(row, place)
        place = [behind for behind in places_after(row, limit, place) if floors[behind] == least][0]
        keeping.append(place[1])
    return Loads(floors[BEGINNING], keeping, floors)


def number_of_loads(row, limit):
    """The least number of loads."""
    return fewest_loads(row, limit).number


def furthest(row, limit):
    """The list of what is held behind each mention if the one is let go whose next mention is the furthest."""
    check_mentions(row, limit)
    keeping = []
    held = ()
    for at, (_, variable) in enumerate(row):
        if variable not in held and len(held) == limit:
            gone = max([(next_use(row, at, one), one) for one in held])[1]
            held = tuple([one for one in held if one != gone])
        held = with_one(held, variable)
        keeping.append(held)
    return keeping


def loads(row, limit, keeping):
    """The number of loads, if some tuples are what is held behind the mentions, None if they can't be."""
    check_mentions(row, limit)
    if len(keeping) != len(row):
        return None
    number = 0
    place = BEGINNING
    for held in keeping:
        behind = (place[0] + 1, held)
        if not are_integers(held, 0, MOST_MENTIONED) or behind not in places_after(row, limit, place):
            return None
        number += count_load(row, place)
        place = behind
    return number


def check_mentions(row, limit):
    """Refuse what is no row of mentions, or no number of registers."""
    if not isinstance(row, (list, tuple)) or len(row) > MOST_MENTIONS:
        raise BadMentions(None)
    for index, mention in enumerate(row):
        if not is_mention(mention):
            raise BadMentions(index)
    check_limit(limit, 1, MOST_REGISTERS)


def is_mention(mention):
    """Whether something is a mention of a variable."""
    if not isinstance(mention, tuple) or len(mention) != 2:
        return False
    return mention[0] in ("use", "define") and is_integer(mention[1], 0, MOST_MENTIONED)


def is_place(row, limit, place):
    """Whether something is a number of mentions that are done, and what can be held then."""
    if not isinstance(place, tuple) or len(place) != 2 or not is_integer(place[0], 0, len(row) + 1):
        return False
    done, held = place
    if not are_integers(held, 0, MOST_MENTIONED) or not is_ascending(held) or len(held) > limit:
        return False
    mentioned = [variable for _, variable in row[:done]]
    return all([one in mentioned for one in held]) and all([one in held for one in mentioned[-1:]])


def count_load(row, place):
    """The number of loads of the next mention behind a place: 1 or 0."""
    done, held = place
    word, variable = row[done]
    return 1 if word == "use" and variable not in held else 0


def with_one(held, variable):
    """What is held, and a variable, ascending."""
    return tuple(sorted([one for one in held if one != variable] + [variable]))


def places_after(row, limit, place):
    """The list of all places to which the next mention behind a place can lead."""
    done, held = place
    variable = row[done][1]
    parts = [()]
    for one in held:
        if one != variable:
            parts = parts + [part + (one,) for part in parts]
    return [(done + 1, with_one(part, variable)) for part in parts if len(part) < limit]


def all_floors(row, limit):
    """A dict from all places that can be come to, ascending, to the least number of loads behind them."""
    layers = [[BEGINNING]]
    for _ in row:
        behind = [after for place in layers[-1] for after in places_after(row, limit, place)]
        layers.append(sorted(set(behind)))
    floors = {place: 0 for place in layers[-1]}
    for layer in layers[-2::-1]:
        for place in layer:
            least = min([floors[after] for after in places_after(row, limit, place)])
            floors[place] = least + count_load(row, place)
    return {place: floors[place] for layer in layers for place in layer}


def next_use(row, at, variable):
    """Where a variable is mentioned next behind a mention, if it is used there, and the end of the row otherwise."""
    found = [place for place in range(at + 1, len(row)) if row[place][1] == variable]
    return found[0] if found and row[found[0]][0] == "use" else len(row)
