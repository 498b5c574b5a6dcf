"""How many ways there are to give rooms to rivals."""

from registerrooms.rivals import check_rivals
from registerrooms.shapes import check_limit

MOST_ROOMS = 20


def partings(rivals):
    """The list with the numbers of partings into 0, 1 and so on sets."""
    check_rivals(rivals)
    counts = [0] * (rivals.many + 1)
    for rooms in all_partings(rivals):
        counts[max(rooms) + 1] += 1
    return counts


def polynomial(rivals):
    """The list of the coefficients of the polynomial that tells the number of ways, that of the power 0 first.

    The sets of a parting into k of them get different rooms in x * (x - 1) * .. * (x - k + 1) ways.
    """
    counts = partings(rivals)
    total = [0] * len(counts)
    product = [1] + [0] * rivals.many
    for sets, count in enumerate(counts):
        total = [one + count * other for one, other in zip(total, product)]
        product = [above - sets * same for above, same in zip([0] + product, product)]
    return total


def ways(rivals, limit):
    """The number of ways to give rooms, with a number of rooms."""
    check_rivals(rivals)
    check_limit(limit, 0, MOST_ROOMS)
    return sum([count * choices(limit, sets) for sets, count in enumerate(partings(rivals))])


def all_partings(rivals):
    """The list of all partings, each as rooms for the variables, where a new room is the next one that is not used."""
    found = [()]
    for one in range(rivals.many):
        near = [other for other in rivals[one] if other < one]
        found = [rooms + (room,) for rooms in found for room in range(max(rooms, default=-1) + 2)
                 if room not in [rooms[other] for other in near]]
    return found


def choices(limit, sets):
    """In how many ways so many sets get different ones of some rooms."""
    number = 1
    for taken in range(sets):
        number = number * (limit - taken)
    return number
