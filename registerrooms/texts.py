"""Programs as texts, with a line for each row and end."""

from registerrooms.errors import BadProgram, BadSingle, BadText
from registerrooms.programs import MOST_HANDED, MOST_SPAN, MOST_VARIABLES, Program, check_plain
from registerrooms.shapes import (
    ENDS, MOST_BLOCKS, are_integers, is_end, is_integer, is_join, is_row, joins_of,
)
from registerrooms.single import MOST_SINGLE, Single, check_single

# How many lines stand ahead of the blocks, and how many digits a number has at most that can stand anywhere.
HEAD = 3
MOST_DIGITS = 2


def written(program):
    """The text of a plain program."""
    check_plain(program)
    return text_of([("many", program.many), ("handed", program.handed), ("span", program.span)], program.blocks)


def written_single(single):
    """The text of a single program."""
    check_single(single)
    return text_of([("single", single.many), ("handed",) + single.handed, ("span", single.span)], single.blocks)


def read(text):
    """The plain program with a text."""
    lines = lines_in(text)
    check_lines(lines, "many", MOST_VARIABLES)
    many, handed, span = [line[1] for line in lines[:HEAD]]
    blocks = tuple([(rows, end) for _, rows, end in blocks_in(lines)])
    try:
        return Program(many, blocks, handed=handed, span=span)
    except BadProgram:
        raise BadText(len(lines))


def read_single(text):
    """The single program with a text."""
    lines = lines_in(text)
    check_lines(lines, "single", MOST_SINGLE)
    try:
        return Single(lines[0][1], lines[1][1:], tuple(blocks_in(lines)), span=lines[2][1])
    except BadSingle:
        raise BadText(len(lines))


def text_of(head, blocks):
    """The text of a program with these lines at its head."""
    lines = list(head)
    for block in range(len(blocks)):
        lines.append(("block",))
        lines.extend([("join", variable) + sources for variable, sources in joins_of(blocks, block)])
        lines.extend(list(blocks[block][-2]))
        lines.append(blocks[block][-1])
    return "".join([line_of(line) for line in lines])


def line_of(parts):
    """A line with a word and numbers."""
    return " ".join([str(part) for part in parts]) + "\n"


def lines_in(text):
    """The list of the lines of a text: tuples of a word, and of a number for each other word, None if it is none."""
    if not isinstance(text, str) or not text.endswith("\n"):
        raise BadText(None)
    return [parts_of(line) for line in text.split("\n")[:-1]]


def parts_of(line):
    """The first word of a line, and the numbers behind it."""
    words = line.split(" ")
    return (words[0],) + tuple([number_in(word) for word in words[1:]])


def number_in(word):
    """The number that is written so, None if it is none, or is written in another way, or is too great."""
    if not word.isascii() or not word.isdigit() or len(word) > MOST_DIGITS:
        return None
    return int(word) if str(int(word)) == word else None


def check_lines(lines, first, most):
    """Refuse lines that cannot stand where they do, and lines that do not end with the end of a block.

    The first one has this word, and at most so many variables.
    """
    for row in range(len(lines)):
        if not can_stand(lines, row, first, most):
            raise BadText(row)
    if lines[-1][0] not in ENDS:
        raise BadText(len(lines))


def can_stand(lines, row, first, most):
    """Whether a line can stand where it does, if those ahead of it can."""
    if row == 0:
        return is_counted(lines[row], first, 1, most)
    many = lines[0][1]
    if row == 1:
        return is_handed(lines[row], first, many)
    if row == 2:
        return is_counted(lines[row], "span", 2, MOST_SPAN)
    span = lines[2][1]
    if row == HEAD or lines[row - 1][0] in ENDS:
        return lines[row] == ("block",)
    if lines[row][0] == "join":
        return first == "single" and lines[row - 1][0] in ("block", "join") and is_joined(lines[row], many)
    return is_row(lines[row], many, span) or is_end(lines[row], many, MOST_BLOCKS)


def is_counted(line, word, low, top):
    """Whether a line has this word and a number, at least low and at most top."""
    return len(line) == 2 and line[0] == word and is_integer(line[1], low, top + 1)


def is_handed(line, first, many):
    """Whether a line tells what is handed in: how many variables in a plain program, which ones in a single one."""
    if first == "many":
        return is_counted(line, "handed", 0, min(MOST_HANDED, many))
    return line[0] == "handed" and are_integers(line[1:], 0, many) and len(line) <= MOST_HANDED + 1


def is_joined(line, many):
    """Whether a line has the variable of a join and others, however many."""
    return len(line) > 1 and is_join((line[1], line[2:]), many)


def blocks_in(lines):
    """The list of the blocks of lines that can stand so: triples of joins, rows and an end."""
    parts = []
    for line in lines[HEAD:]:
        if line[0] == "block":
            parts.append([])
        else:
            parts[-1].append(line)
    return [block_of(some) for some in parts]


def block_of(lines):
    """The block of some lines."""
    joins = tuple([(line[1], line[2:]) for line in lines if line[0] == "join"])
    return (joins, tuple(lines[len(joins):-1]), lines[-1])
