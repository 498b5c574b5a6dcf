"""Plain programs made single."""

from registerrooms.errors import TooLarge
from registerrooms.joins import place_joins
from registerrooms.programs import check_plain
from registerrooms.shapes import defined_by, edges_of, used_by, used_by_end
from registerrooms.single import MOST_SINGLE, Single


class Naming:
    """Which variable of the single program stands for which definition of a variable of the plain one.

    A definition is called by its block, how many of its rows are done then, and the plain variable. If none is,
    it is a join, or stands at the beginning of the program: never both, as no edge leads to block 0.
    """

    def __init__(self, program):
        self.program = program
        self.placed = all_placed(program)
        self.numbers = {place: number for number, place in enumerate(all_places(program, self.placed))}

    def name_at(self, block, done, variable):
        """The single variable that was defined last for a plain one at a point."""
        places = [(block, some, variable) for some in range(done + 1) if (block, some, variable) in self.numbers]
        if places:
            return self.numbers[places[-1]]
        return self.name_behind(self.placed[variable].reaching[block], variable)

    def name_behind(self, block, variable):
        """The single variable that was defined last for a plain one at the end of a block."""
        return self.name_at(block, len(self.program.rows(block)), variable)

    def made_joins(self, block):
        """The joins of a block of the single program."""
        found = []
        for variable in joined_in(self.placed, block):
            sources = [self.name_behind(source, variable) for source, _ in edges_of(self.program.blocks, block)]
            found.append((self.numbers[(block, 0, variable)], tuple(sources)))
        return tuple(found)

    def made_rows(self, block):
        """The rows of a block of the single program."""
        rows = [self.made_row(block, at) for at in range(len(self.program.rows(block)))]
        if block == 0:
            rows = [("put", variable, 0) for variable in range(self.program.handed, self.program.many)] + rows
        return tuple(rows)

    def made_row(self, block, at):
        """A row of the single program, given its place in the plain one."""
        row = self.program.rows(block)[at]
        defined = tuple([self.numbers[(block, at + 1, variable)] for variable in defined_by(row)])
        used = tuple([self.name_at(block, at, variable) for variable in used_by(row)])
        return row[:1] + defined + row[2:] if row[0] == "put" else row[:1] + defined + used

    def made_end(self, block):
        """The end of a block of the single program."""
        end = self.program.end(block)
        used = tuple([self.name_behind(block, variable) for variable in used_by_end(end)])
        return end[:1] + used + end[1 + len(used):]


def to_single(program):
    """The single program that a plain one is made."""
    naming = naming_of(program)
    blocks = [(naming.made_joins(at), naming.made_rows(at), naming.made_end(at)) for at in range(len(program))]
    return Single(len(naming.numbers), tuple(range(program.handed)), tuple(blocks), span=program.span)


def names_of(program):
    """The list with, for each variable of the single program, that of the plain one."""
    return [place[2] for place in naming_of(program).numbers]


def count_joins(program):
    """The list with, for each variable of a plain program, in how many blocks it has a join."""
    check_plain(program)
    return [len(placed.blocks) for placed in all_placed(program)]


def naming_of(program):
    """The Naming of a plain program that has few enough definitions."""
    check_plain(program)
    naming = Naming(program)
    if len(naming.numbers) > MOST_SINGLE:
        raise TooLarge("the single program would have more variables than there may be")
    return naming


def all_placed(program):
    """The list with, for each variable, its Placed."""
    return [place_joins(program, variable) for variable in range(program.many)]


def joined_in(placed, block):
    """The ascending list of the variables that have a join in a block."""
    return [variable for variable in range(len(placed)) if block in placed[variable].blocks]


def all_places(program, placed):
    """The list of all definitions, in the order of the variables of the single program."""
    places = [(0, 0, variable) for variable in range(program.many)]
    for block in range(len(program)):
        places.extend([(block, 0, variable) for variable in joined_in(placed, block)])
        for at, row in enumerate(program.rows(block)):
            places.extend([(block, at + 1, variable) for variable in defined_by(row)])
    return places
