"""Single programs made plain again, with rooms in place of their variables."""

from registerrooms.errors import BadProgram, BadRooms, TooLarge
from registerrooms.held import all_held, colour, do_fit
from registerrooms.making import to_single
from registerrooms.programs import Program
from registerrooms.shapes import carried, followers_of
from registerrooms.single import check_single


class Layout:
    """The moves that a plain program with so many variables needs at its beginning and on its edges.

    They are lists, or None where none can do what is needed.
    """

    def __init__(self, single, rooms, many):
        self.single = single
        self.rooms = rooms
        self.many = many
        self.held = all_held(single)
        self.first = self.moves_into(0, list(enumerate(single.handed)))
        self.moves = {}
        for block in range(len(single)):
            for way, target in enumerate(followers_of(single.blocks, block)):
                pairs = carried(single.blocks, (block, way))
                self.moves[(block, way)] = self.moves_into(target, [(rooms[one], other) for other, one in pairs])

    def moves_into(self, block, pairs):
        """As few moves as possible into a block, given pairs of a place and the variable that gets what it holds."""
        taken = [self.rooms[variable] for variable in self.held[(block, 0)]]
        free = [place for place in range(self.many) if place not in taken]
        return fewest_moves({self.rooms[variable]: place for place, variable in pairs}, free)

    def is_stuck(self):
        """Whether no moves can do somewhere what is needed there."""
        return self.first is None or None in list(self.moves.values())

    def split_edges(self):
        """The ascending list of the edges that need a block of their own."""
        return [edge for edge in self.moves if self.moves[edge] and self.single.end(edge[0])[0] == "part"]

    def plain_rows(self, block):
        """The rows of a block of the plain program."""
        rows = [self.plain_row(row) for row in self.single.rows(block)]
        rows = [row for row in rows if row[0] != "move" or row[1] != row[2]]
        if block == 0:
            rows = as_rows(self.first) + rows
        if self.single.end(block)[0] == "go":
            rows = rows + as_rows(self.moves[(block, 0)])
        return tuple(rows)

    def plain_row(self, row):
        """A row with rooms in place of variables."""
        if row[0] == "put":
            return (row[0], self.rooms[row[1]], row[2])
        return row[:1] + tuple([self.rooms[variable] for variable in row[1:]])

    def plain_end(self, block):
        """The end of a block of the plain program."""
        end = self.single.end(block)
        if end[0] != "part":
            return end
        split = self.split_edges()
        targets = list(end[2:])
        for way in range(len(targets)):
            if (block, way) in split:
                targets[way] = len(self.single) + split.index((block, way))
        return (end[0], self.rooms[end[1]]) + tuple(targets)

    def plain_blocks(self):
        """The tuple of the blocks of the plain program."""
        blocks = [(self.plain_rows(block), self.plain_end(block)) for block in range(len(self.single))]
        for edge in self.split_edges():
            target = followers_of(self.single.blocks, edge[0])[edge[1]]
            blocks.append((tuple(as_rows(self.moves[edge])), ("go", target)))
        return tuple(blocks)


def to_plain(single, rooms):
    """The plain program of a single one with rooms."""
    check_rooms(single, rooms)
    layout = Layout(single, rooms, asked_for(single, rooms))
    if layout.is_stuck():
        layout = Layout(single, rooms, layout.many + 1)
    try:
        return Program(layout.many, layout.plain_blocks(), handed=len(single.handed), span=single.span)
    except BadProgram:
        raise TooLarge("the plain program would have more than there may be")


def has_spare(single, rooms):
    """Whether the plain program has a variable more than the rooms ask for."""
    return to_plain(single, rooms).many > asked_for(single, rooms)


def rebuilt(program):
    """A plain program made of the single one that a plain one is made, with as few rooms as possible."""
    single = to_single(program)
    return to_plain(single, colour(single).rooms)


def check_rooms(single, rooms):
    """Refuse what is no single program, and what are no rooms that fit it."""
    check_single(single)
    if not do_fit(single, rooms):
        raise BadRooms("these are no rooms that fit the program")


def asked_for(single, rooms):
    """How many variables the rooms ask for."""
    return max(max(rooms) + 1, len(single.handed))


def as_rows(moves):
    """The list of the rows that do some moves."""
    return [("move", place, source) for place, source in moves]


def fewest_moves(copies, free):
    """A list of as few moves as possible that do copies between places, None if none can.

    Copies are a dict from places to those that hold what they shall get. Moves write to these and to free places
    alone. Each copy needs a move; and a ring of copies of which nothing else reads needs one more, by way of a
    place that nothing reads.
    """
    left = {place: copies[place] for place in copies if copies[place] != place}
    rings = rings_in(left)
    read = list(left.values())
    unread = [place for place in list(free) + list(left) if place not in read]
    if rings and not unread:
        return None
    moves = []
    for ring in rings:
        moves.append((unread[0], ring[0]))
        moves.extend(list(zip(ring, ring[1:] + unread[:1])))
    in_rings = [place for ring in rings for place in ring]
    return moves + moves_of_trees({place: left[place] for place in left if place not in in_rings})


def rings_in(left):
    """The list of all rings of copies of which nothing else reads, each as a list of places and their sources."""
    read = list(left.values())
    rings = []
    for place in left:
        ring = [place]
        while ring[-1] in left and left[ring[-1]] not in ring:
            ring.append(left[ring[-1]])
        if left.get(ring[-1]) == place and place == min(ring) and all([read.count(one) == 1 for one in ring]):
            rings.append(ring)
    return rings


def moves_of_trees(left):
    """A list with a move for each of some copies, of which there are no rings of which nothing else reads.

    What reads of a place that was just copied reads of the copy instead, so that rings come apart there.
    """
    moves = []
    while left:
        read = list(left.values())
        place = [one for one in left if one not in read][0]
        source = left[place]
        moves.append((place, source))
        left = {one: place if left[one] == source else left[one] for one in left if one != place}
    return moves
