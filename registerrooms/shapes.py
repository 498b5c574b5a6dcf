"""What may stand where in a program, and where its roads lead: what plain and single programs share.

Blocks are here those of a plain or of a single program: their last two parts are rows and an end.
"""

from registerrooms.errors import BadBlock, BadLimit, BadPoint, BadVariable

MOST_BLOCKS = 16

# What stands behind a word: v is a variable, n a number of the span, b a block other than 0.
ROWS = {"put": "vn", "move": "vv", "add": "vvv", "sub": "vvv", "less": "vvv", "take": "v", "tell": "v"}
ENDS = {"go": "b", "part": "vbb", "stop": ""}


def is_whole(thing):
    """Whether something is an integer."""
    return isinstance(thing, int) and not isinstance(thing, bool)


def is_integer(thing, low, top):
    """Whether something is an integer from low on that is less than top."""
    return is_whole(thing) and low <= thing < top


def are_integers(things, low, top):
    """Whether something is a tuple of integers from low on that are less than top."""
    return isinstance(things, tuple) and all([is_integer(thing, low, top) for thing in things])


def is_ascending(things):
    """Whether each item of a tuple is less than the next one."""
    return all([one < other for one, other in zip(things, things[1:])])


def is_row(row, many, span):
    """Whether something is a row for so many variables and this span."""
    return has_word(row) and row[0] in ROWS and fills(row[1:], ROWS[row[0]], many, span, 1)


def is_end(end, many, count):
    """Whether something is an end for so many variables and blocks."""
    return has_word(end) and end[0] in ENDS and fills(end[1:], ENDS[end[0]], many, 0, count)


def has_word(line):
    """Whether something is a tuple that begins with a string."""
    return isinstance(line, tuple) and len(line) > 0 and isinstance(line[0], str)


def fills(numbers, places, many, span, count):
    """Whether there is one number for each place, which may stand there."""
    if len(numbers) != len(places):
        return False
    return all([may_stand(number, place, many, span, count) for number, place in zip(numbers, places)])


def may_stand(number, place, many, span, count):
    """Whether something is a number that may stand at a place of this kind."""
    if place == "v":
        return is_integer(number, 0, many)
    if place == "n":
        return is_integer(number, 0, span)
    return is_integer(number, 1, count)


def is_join(join, many):
    """Whether something is a join for so many variables, however many edges there are."""
    if not isinstance(join, tuple) or len(join) != 2:
        return False
    return is_integer(join[0], 0, many) and are_integers(join[1], 0, many)


def are_joins(joins, many):
    """Whether something is a tuple of joins."""
    return isinstance(joins, tuple) and all([is_join(join, many) for join in joins])


def are_rows(rows, most, many, span):
    """Whether something is a tuple of so many rows at most."""
    return isinstance(rows, tuple) and len(rows) <= most and all([is_row(row, many, span) for row in rows])


def is_block(block, parts, most, many, span, count):
    """Whether something is a block of two parts, or of three with joins ahead."""
    if not isinstance(block, tuple) or len(block) != parts:
        return False
    if not all([are_joins(joins, many) for joins in block[:-2]]):
        return False
    return are_rows(block[-2], most, many, span) and is_end(block[-1], many, count)


def are_blocks(blocks, parts, most, many, span):
    """Whether something is a tuple of such blocks, to each of which a road leads."""
    if not isinstance(blocks, tuple) or not is_integer(len(blocks), 1, MOST_BLOCKS + 1):
        return False
    if not all([is_block(block, parts, most, many, span, len(blocks)) for block in blocks]):
        return False
    return len(reached(blocks, None)) == len(blocks)


def is_point(blocks, point):
    """Whether something is a point of these blocks."""
    if not isinstance(point, tuple) or len(point) != 2 or not is_integer(point[0], 0, len(blocks)):
        return False
    return is_integer(point[1], 0, len(blocks[point[0]][-2]) + 1)


def all_points(blocks):
    """The ascending list of all points."""
    return [(block, done) for block in range(len(blocks)) for done in range(len(blocks[block][-2]) + 1)]


def check_block(blocks, block):
    """Refuse what is no block."""
    if not is_integer(block, 0, len(blocks)):
        raise BadBlock("this is no block of the program")


def check_point(blocks, point):
    """Refuse what is no point."""
    if not is_point(blocks, point):
        raise BadPoint("this is no point of the program")


def check_variable(many, variable):
    """Refuse what is none of so many variables."""
    if not is_integer(variable, 0, many):
        raise BadVariable("this is no variable")


def check_limit(limit, low, most):
    """Refuse what is no integer from low to most."""
    if not is_integer(limit, low, most + 1):
        raise BadLimit("this is no limit")


def defined_by(row):
    """The tuple of the variables that a row defines: one or none."""
    return () if row[0] == "tell" else row[1:2]


def used_by(row):
    """The tuple of the variables that a row uses."""
    if row[0] == "tell":
        return row[1:]
    if row[0] == "put":
        return ()
    return row[2:]


def used_by_end(end):
    """The tuple of the variables that an end uses."""
    return end[1:2] if end[0] == "part" else ()


def followers_of(blocks, block):
    """The tuple of the blocks to which the end of a block leads, one for each way."""
    end = blocks[block][-1]
    return end[2:] if end[0] == "part" else end[1:]


def edges_of(blocks, target):
    """The ascending list of the edges into a block."""
    found = []
    for block in range(len(blocks)):
        for way, follower in enumerate(followers_of(blocks, block)):
            if follower == target:
                found.append((block, way))
    return found


def joins_of(blocks, block):
    """The tuple of the joins of a block, which is empty in a plain program."""
    return blocks[block][0] if len(blocks[block]) == 3 else ()


def carried(blocks, edge):
    """The list of pairs of a variable that is joined behind an edge, and the one that it has for this edge."""
    block, way = edge
    target = followers_of(blocks, block)[way]
    joins = joins_of(blocks, target)
    if not joins:
        return []
    place = edges_of(blocks, target).index(edge)
    return [(variable, sources[place]) for variable, sources in joins]


def defined_ahead(blocks, point):
    """The list of the variables that a step to a point defines."""
    block, done = point
    if done > 0:
        return list(defined_by(blocks[block][-2][done - 1]))
    return [variable for variable, _ in joins_of(blocks, block)]


def used_behind(blocks, point):
    """The list of the variables that are used directly behind a point, also by joins on edges."""
    block, done = point
    rows, end = blocks[block][-2:]
    if done < len(rows):
        return list(used_by(rows[done]))
    used = list(used_by_end(end))
    for way in range(len(followers_of(blocks, block))):
        used.extend([source for _, source in carried(blocks, (block, way))])
    return used


def reached(blocks, barred):
    """A dict from each block to which a road leads that is not over a barred one, to the block ahead of it there.

    These roads are shortest ones; None is ahead of block 0, and is barred if no block is.
    """
    ahead = {} if barred == 0 else {0: None}
    waiting = list(ahead)
    while waiting:
        block = waiting.pop(0)
        for follower in followers_of(blocks, block):
            if follower != barred and follower not in ahead:
                ahead[follower] = block
                waiting.append(follower)
    return ahead


def road_to(blocks, target, barred):
    """A shortest road to a block that is not over a barred one, None if there is none."""
    ahead = reached(blocks, barred)
    if target not in ahead:
        return None
    road = [target]
    while road[-1] != 0:
        road.append(ahead[road[-1]])
    return tuple(road[::-1])
