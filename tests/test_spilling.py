"""Point [18], variables held in registers, and loads."""

import itertools
import random

from registerrooms.errors import BadLimit, BadMentions
from registerrooms.spilling import Loads, fewest_loads, furthest, loads, number_of_loads
from tests.samples import RoomTest

ROW = [("use", 0), ("use", 1), ("use", 2), ("use", 0), ("use", 1)]
NO_ROWS = (None, 0, "use", {}, {("use", 0)}, True, range(2), ("use", 0) * 7, [("use", 0)] * 13, (("define", 5),) * 13, [0] * 13)
NO_MENTIONS = (
    None, 0, "use", (), ("use",), ("use", 0, 0), ("load", 0), ("Use", 0), (0, "use"), ("use", 6), ("use", -1),
    ("define", 6), ("use", True), ("define", False), ("use", None), ("use", "0"), ("use", (0,)), ["use", 0],
    ["define", 1], {"use": 0}, ("", 0), (None, 0), (("use",), 0), (True, 0), [])
NO_LIMITS = (0, 5, -1, True, False, None, "2", (2,), [2])


def uses(*variables):
    """A row of uses."""
    return [("use", one) for one in variables]


def behind(held, variable, limit):
    """All that can be held behind a mention of a variable."""
    return [some for size in range(1, limit + 1) for some in itertools.combinations(sorted({*held, variable}), size)
            if variable in some]


def all_keeping(row, limit):
    """A dict from all that can be held behind all mentions, one after the other, to the number of loads."""
    found = {((),): 0}
    for word, variable in row:
        found = {(*some, held): number + (word == "use" and variable not in some[-1])
                 for some, number in found.items() for held in behind(some[-1], variable, limit)}
    return {some[1:]: number for some, number in found.items()}


def least(row, limit):
    """The least number of loads, by a walk through all that can be held."""
    found = {(): 0}
    for word, variable in row:
        after = {}
        for held, number in found.items():
            for some in behind(held, variable, limit):
                more = number + (word == "use" and variable not in held)
                after[some] = min(after.get(some, more), more)
        found = after
    return min(found.values())


def is_right(paper, row, limit):
    """Whether a Loads is right, by the words of the document."""
    keeping, floors = paper.keeping, paper.floors
    number, held = 0, ()
    if len(keeping) != len(row):
        return False
    for (word, variable), some in zip(row, keeping):
        if some not in behind(held, variable, limit):
            return False
        number += word == "use" and variable not in held
        held = some
    if number != paper.number or floors.get((0, ())) != number:
        return False
    for (done, held), floor in floors.items():
        if not 0 <= done <= len(row) or held not in can_be_held(row, limit, done):
            return False
        if done == len(row):
            if floor > 0:
                return False
            continue
        word, variable = row[done]
        load = word == "use" and variable not in held
        for some in behind(held, variable, limit):
            if (done + 1, some) not in floors or floors[done + 1, some] + load < floor:
                return False
    return True


def can_be_held(row, limit, done):
    """All that can be held when so many mentions are done."""
    found = {()}
    for _, variable in row[:done]:
        found = {some for held in found for some in behind(held, variable, limit)}
    return found


def random_rows(seed, times, most=12):
    """So many rows, the same for the same seed."""
    rng = random.Random(seed)
    found = []
    for _ in range(times):
        many = rng.randint(1, 6)
        words = rng.choice((("use",), ("use", "define"), ("use", "use", "use", "define")))
        found.append([(rng.choice(words), rng.randrange(many)) for _ in range(rng.randint(0, most))])
    return found


SPECIAL = [
    [], ROW, uses(0), [("define", 0)], uses(*[3] * 12), [("define", 5)] * 12, [("define", one) for one in range(6)] * 2,
    uses(*range(6), *range(6)), uses(*range(6), *range(5, -1, -1)), [("define", 0), ("use", 0)] * 6,
    [("use", 0), ("define", 0)] * 6, uses(0, 1, 2, 3, 4) + [("define", 0), ("use", 1)]]


class LoadsTest(RoomTest):
    def ask(self, row, limit):
        """Ask what is found against a walk through all that can be held."""
        found = fewest_loads(row, limit)
        self.assertIs(type(found), Loads)
        self.assertIs(found.shows(row, limit), True)
        self.assertTrue(is_right(found, row, limit))
        number = least(row, limit)
        self.assertEqual((found.number, number_of_loads(row, limit)), (number, number))
        self.assertEqual(loads(row, limit, found.keeping), number)
        self.assertEqual(loads(row, limit, furthest(row, limit)), number)
        self.assertEqual((type(found.keeping), type(found.floors), type(found.number)), (list, dict, int))
        self.assertTrue(all(type(held) is tuple for held in found.keeping + furthest(row, limit)))
        self.assertEqual(furthest(row, limit), self.letting_go(row, limit))

    def letting_go(self, row, limit):
        """What is held if the furthest is let go, by the words of the document."""
        held, found = set(), []
        for at, (_, variable) in enumerate(row):
            far = {}
            for one in held:
                later = [place for place in range(at + 1, len(row)) if row[place][1] == one]
                far[one] = later[0] if later and row[later[0]][0] == "use" else 99
            if variable not in held and len(held) == limit:
                held.remove(max(one for one in held if far[one] == max(far.values())))
            held.add(variable)
            found.append(tuple(sorted(held)))
        return found

    def test_examples(self):
        self.assertEqual(
            [number_of_loads(ROW, 2), furthest(ROW, 2), loads(ROW, 2, furthest(ROW, 2)), number_of_loads(ROW, 3),
             loads(ROW, 2, [(0,), (0, 1), (1, 2), (0, 2), (0, 1)])],
            [4, [(0,), (0, 1), (0, 2), (0, 2), (0, 1)], 4, 3, 5])

    def test_special(self):
        for row in SPECIAL:
            for limit in (1, 2, 3, 4):
                self.ask(row, limit)
                self.ask(tuple(row), limit)

    def test_generated(self):
        for row in random_rows(23, 150):
            for limit in (1, 2, 3, 4):
                self.ask(row, limit)

    def test_all_that_can_be_held(self):
        for row in random_rows(24, 30, most=5) + [ROW, uses(0, 1, 0, 1), []]:
            for limit in (1, 2, 3):
                found = all_keeping(row, limit)
                self.assertEqual(min(found.values()), number_of_loads(row, limit))
                for keeping, number in itertools.islice(found.items(), 300):
                    self.assertEqual(loads(row, limit, list(keeping)), number)

    def test_empty(self):
        for limit in (1, 4):
            self.assertEqual((number_of_loads([], limit), furthest((), limit), loads([], limit, [])), (0, [], 0))
            self.assertEqual(fewest_loads([], limit), Loads(0, [], {(0, ()): 0}))
            self.assertIsNone(loads([], limit, [()]))
            for number, floors, goal in ((0, {(0, ()): 0}, True), (0, {}, False), (0, {(0, ()): 1}, False),
                                         (1, {(0, ()): 1}, False), (0, {(0, ()): -1}, False), (-1, {(0, ()): -1}, False)):
                self.assertIs(Loads(number, [], floors).shows([], limit), goal)

    def test_numbers(self):
        for limit in (1, 2, 3, 4):
            self.assertEqual(number_of_loads([("define", 0)] * 12, limit), 0)
            self.assertEqual(number_of_loads([("define", one) for one in range(6)] * 2, limit), 0)
            self.assertEqual(number_of_loads(uses(*[2] * 12), limit), 1)
        self.assertEqual([number_of_loads(uses(*[0, 1, 2, 3] * 3), limit) for limit in (1, 2, 3, 4)], [12, 9, 6, 4])
        self.assertEqual([number_of_loads([("define", 0), ("define", 1), ("use", 0)], limit) for limit in (1, 2)], [1, 0])

    def test_furthest(self):
        for row, limit, goal in (
                # Two that are mentioned no more: the greatest one goes.
                (uses(0, 1, 2), 2, [(0,), (0, 1), (0, 2)]),
                (uses(1, 0, 2), 2, [(1,), (0, 1), (0, 2)]),
                # The next mention defines it: it goes, however near that is.
                (uses(0, 1, 2) + [("define", 0), ("use", 1)], 2, [(0,), (0, 1), (1, 2), (0, 1), (0, 1)]),
                (uses(0, 1, 2) + [("define", 0), ("use", 0), ("use", 1)], 2,
                 [(0,), (0, 1), (1, 2), (0, 1), (0, 1), (0, 1)]),
                # One is defined next, the other mentioned no more: they are as far.
                (uses(0, 1, 2) + [("define", 1)], 2, [(0,), (0, 1), (0, 2), (0, 1)]),
                (uses(0, 1, 2) + [("define", 0)], 2, [(0,), (0, 1), (0, 2), (0, 2)]),
                (uses(0, 1, 2, 1, 0), 2, [(0,), (0, 1), (1, 2), (1, 2), (0, 1)]),
                ([("define", 5), ("use", 3), ("define", 4), ("use", 5)], 3, [(5,), (3, 5), (3, 4, 5), (3, 4, 5)]),
                (uses(0, 1, 0), 1, [(0,), (1,), (0,)]),
                (uses(0, 0, 0), 1, [(0,), (0,), (0,)]),
                (uses(5, 4, 3, 2, 1, 5), 4, [(5,), (4, 5), (3, 4, 5), (2, 3, 4, 5), (1, 2, 3, 5), (1, 2, 3, 5)])):
            self.assertEqual(furthest(row, limit), goal, row)

    def test_keeping(self):
        row = uses(0, 1, 2) + [("define", 0), ("use", 1)]
        for keeping, goal in (
                ([(0,), (0, 1), (1, 2), (0, 1), (0, 1)], 3),
                ([(0,), (1,), (2,), (0,), (1,)], 4),
                ([(0,), (1,), (1, 2), (0, 1), (1,)], 3),
                ([(0,), (0, 1), (0, 2), (0, 2), (1, 2)], 4),
                # The variable of the mention is not held.
                ([(), (0, 1), (1, 2), (0, 1), (0, 1)], None), ([(0,), (0,), (1, 2), (0, 1), (0, 1)], None),
                ([(0,), (0, 1), (0, 1), (0, 1), (0, 1)], None), ([(0,), (0, 1), (1, 2), (1, 2), (1,)], None),
                # Too many.
                ([(0,), (0, 1), (0, 1, 2), (0, 1), (0, 1)], None),
                # Not held ahead of it.
                ([(0, 1), (0, 1), (1, 2), (0, 1), (0, 1)], None), ([(0,), (1,), (0, 2), (0, 2), (0, 1)], None),
                ([(0,), (0, 1), (2,), (0, 1), (0, 1)], None), ([(0,), (0, 1), (2, 5), (0, 2), (1, 2)], None),
                # Not ascending, or twice the same.
                ([(0,), (1, 0), (1, 2), (0, 1), (0, 1)], None), ([(0, 0), (0, 1), (1, 2), (0, 1), (0, 1)], None),
                ([(0,), (1, 1), (1, 2), (0, 1), (0, 1)], None),
                # Too short, and too long.
                ([(0,), (0, 1), (1, 2), (0, 1)], None), ([], None),
                ([(0,), (0, 1), (1, 2), (0, 1), (0, 1), (0, 1)], None), ([(), (0,), (0, 1), (1, 2), (0, 1), (0, 1)], None),
                # True is no variable, and neither are these.
                ([(0,), (0, True), (1, 2), (0, 1), (0, 1)], None), ([(False,), (0, 1), (1, 2), (0, 1), (0, 1)], None),
                ([(0,), (0, 1), (1, 6), (0, 1), (0, 1)], None), ([(0,), (-1, 1), (1, 2), (0, 1), (0, 1)], None)):
            self.assertEqual(loads(row, 2, keeping), goal, keeping)
        self.assertEqual(loads(row, 3, [(0,), (0, 1), (0, 1, 2), (0, 1), (0, 1)]), 3)
        self.assertIsNone(loads(row, 1, [(0,), (0, 1), (1, 2), (0, 1), (0, 1)]))

    def test_new_each_time(self):
        row = list(ROW)
        one, other = fewest_loads(row, 2), fewest_loads(row, 2)
        self.assertEqual(one, other)
        self.assertIsNot(one, other)
        one.keeping.clear()
        one.floors.clear()
        self.assertTrue(other.keeping and other.floors)
        furthest(row, 2).clear()
        self.assertIsNot(furthest(row, 2), furthest(row, 2))
        keeping = furthest(row, 2)
        self.assertEqual(loads(row, 2, keeping), 4)
        self.assertEqual((row, keeping), (ROW, furthest(ROW, 2)))

    def test_errors(self):
        def asks(row, limit):
            return [(fewest_loads, row, limit), (number_of_loads, row, limit), (furthest, row, limit),
                    (loads, row, limit, []), (Loads(0, [], {}).shows, row, limit),
                    (fewest_loads(ROW, 2).shows, row, limit)]

        for limit in (2, *NO_LIMITS):
            for row in NO_ROWS:
                for ask in asks(row, limit):
                    self.assertIsNone(self.refused(BadMentions, *ask).index)
            for mention in NO_MENTIONS:
                for row, index in (([mention], 0), ((mention,), 0), ([("use", 0), mention], 1), (ROW + [mention, mention], 5),
                                   ([mention, ("use", 0)], 0), ([("define", 5)] * 11 + [mention], 11),
                                   (([("use", 1), mention, mention, ("use", 2)]), 1)):
                    for ask in asks(row, limit):
                        self.assertEqual(self.refused(BadMentions, *ask).index, index)
            self.assertIsNone(self.refused(BadMentions, fewest_loads, [None] * 13, limit).index)
        for limit in NO_LIMITS:
            for row in (ROW, []):
                for ask in asks(row, limit):
                    self.refused(BadLimit, *ask)
        self.ask([("use", 0)] * 12, 4)


class PapersTest(RoomTest):
    def ask(self, paper, goal, row=ROW, limit=2):
        """Ask whether a paper shows, and whether it ought to."""
        self.assertIs(paper.shows(row, limit), goal, vars(paper))

    def test_numbers(self):
        found = fewest_loads(ROW, 2)
        for number, goal in ((4, True), (3, False), (5, False), (0, False), (-4, False), (None, False)):
            self.ask(Loads(number, found.keeping, found.floors), goal)
            self.ask(Loads(number, found.keeping, {**found.floors, (0, ()): number}), goal)
        one = fewest_loads(uses(0), 1)
        self.ask(Loads(True, one.keeping, one.floors), False, uses(0), 1)
        self.ask(Loads(1, one.keeping, {**one.floors, (0, ()): True}), False, uses(0), 1)
        # More loads than need be, and floors that say so.
        more = [(0,), (0, 1), (1, 2), (0, 2), (0, 1)]
        self.assertEqual(loads(ROW, 2, more), 5)
        self.ask(Loads(5, more, found.floors), False)
        self.ask(Loads(5, more, {**found.floors, (0, ()): 5}), False)
        self.ask(Loads(4, more, found.floors), False)

    def test_keeping(self):
        found = fewest_loads(ROW, 2)
        for keeping, number in all_keeping(ROW, 2).items():
            self.ask(Loads(4, keeping, found.floors), number == 4)
        self.ask(Loads(4, [list(held) for held in found.keeping], found.floors), True)
        for keeping in ([], found.keeping[:-1], found.keeping + [(0, 1)], [(0, 1)] + found.keeping[1:]):
            self.ask(Loads(4, keeping, found.floors), False)

    def test_the_beginning(self):
        found = fewest_loads(ROW, 2)
        less = {place: floor for place, floor in found.floors.items() if place != (0, ())}
        self.ask(Loads(4, found.keeping, less), False)
        self.ask(Loads(4, found.keeping, {}), False)
        for floor in (3, 5, 0, -1, None, "4"):
            self.ask(Loads(4, found.keeping, {**less, (0, ()): floor}), False)

    def test_floors(self):
        for row, limit in ((ROW, 2), (uses(0, 1, 0), 1), ([("define", 0), ("use", 1), ("use", 0)], 1),
                           (uses(0, 1, 2, 3, 0, 1), 3)):
            found = fewest_loads(row, limit)
            self.ask(found, True, row, limit)
            for place, floor in found.floors.items():
                less = {some: found.floors[some] for some in found.floors if some != place}
                # All that can be come to must be there, as each place leads to all that can be held next.
                self.ask(Loads(found.number, found.keeping, less), False, row, limit)
                for change in (-3, -1, 1, 3):
                    paper = Loads(found.number, found.keeping, {**found.floors, place: floor + change})
                    self.ask(paper, is_right(paper, row, limit), row, limit)
                for other in (None, True, False, "0", (0,)):
                    self.ask(Loads(found.number, found.keeping, {**found.floors, place: other}), False, row, limit)
                if place[0] == len(row):
                    self.ask(Loads(found.number, found.keeping, {**found.floors, place: 1}), False, row, limit)

    def test_lower_floors(self):
        # Floors may be lower where no less than what is asked for comes of it.
        row = uses(0, 1)
        floors = {(0, ()): 2, (1, (0,)): 1, (2, (0, 1)): 0, (2, (1,)): 0}
        self.ask(Loads(2, [(0,), (0, 1)], floors), True, row)
        self.ask(Loads(2, [(0,), (0, 1)], {**floors, (2, (1,)): -1}), False, row)
        row = [("define", 0), ("define", 1)]
        floors = {(0, ()): 0, (1, (0,)): 0, (2, (0, 1)): 0, (2, (1,)): 0}
        self.ask(Loads(0, [(0,), (1,)], floors), True, row)
        row = uses(0, 0)
        floors = {(0, ()): 1, (1, (0,)): 0, (2, (0,)): 0}
        self.ask(Loads(1, [(0,), (0,)], floors), True, row)
        self.ask(Loads(1, [(0,), (0,)], {**floors, (2, (0,)): -1}), False, row)
        self.ask(Loads(1, [(0,), (0,)], {**floors, (1, (0,)): 1}), False, row)
        self.ask(Loads(1, [(0,), (0,)], {**floors, (1, (0,)): 1, (2, (0,)): 1}), False, row)

    def test_places_that_cannot_be(self):
        for row, limit in ((ROW, 2), (uses(0, 1), 1)):
            found = fewest_loads(row, limit)
            for place in (
                    (0, (0,)), (1, ()), (1, (1,)), (1, (0, 1)), (2, (0,)), (2, (1, 0)), (2, (1, 1)), (2, (0, 1, 2)),
                    (2, (1, 5)), (2, (1, 2)), (-1, ()), (len(row) + 1, (1,)), (len(row) + 1, ()), (1, (6,)), (1, (-1,)),
                    (1, (0, 0)), (2, (1, 6)), (0, (0, 1)), (3, (0, 1, 2)), (3, (1, 2, 0)), (2, (0, 1, 1)), (0,), (0, (), ()),
                    (), 0, None, "0", (0, 0), (None, ()), ((), 0)):
                for floor in (0, -99):
                    self.ask(Loads(found.number, found.keeping, {**found.floors, place: floor}), False, row, limit)
        found = fewest_loads(ROW, 2)
        floors = {place if place != (1, (0,)) else (True, (0,)): floor for place, floor in found.floors.items()}
        self.assertEqual(floors, found.floors)
        self.ask(Loads(4, found.keeping, floors), False)
        floors = {place if place != (1, (0,)) else (1, (False,)): floor for place, floor in found.floors.items()}
        self.ask(Loads(4, found.keeping, floors), False)

    def test_dicts_in_another_order(self):
        found = fewest_loads(ROW, 2)
        turned = Loads(4, found.keeping, dict(reversed(found.floors.items())))
        self.ask(turned, True)
        self.assertEqual(turned, found)

    def test_another_row_or_limit(self):
        found = fewest_loads(ROW, 2)
        self.ask(found, False, limit=3)
        self.ask(found, False, limit=1)
        self.ask(found, False, row=ROW[:-1])
        self.ask(found, False, row=ROW[:-1] + uses(2))
        self.ask(found, True, row=tuple(ROW))

    def test_generated(self):
        rng = random.Random(29)
        for row in random_rows(30, 60, most=6):
            limit = rng.randint(1, 3)
            found = fewest_loads(row, limit)
            for _ in range(6):
                floors = dict(found.floors)
                place = rng.choice(list(floors))
                floors[place] += rng.choice((-1, 1))
                if rng.random() < 0.3:
                    del floors[rng.choice(list(floors))]
                keeping = rng.choice(list(all_keeping(row, limit)))
                paper = Loads(found.number, rng.choice((found.keeping, keeping)), floors)
                self.ask(paper, is_right(paper, row, limit), row, limit)

    def test_copies_and_current_attributes(self):
        found = fewest_loads(ROW, 2)
        keeping, floors = [list(held) for held in found.keeping], dict(found.floors)
        paper = Loads(4, keeping, floors)
        self.assertEqual(paper, found)
        keeping[0].append(1)
        keeping.clear()
        floors.clear()
        self.ask(paper, True)
        self.assertEqual(paper.keeping, found.keeping)
        paper.keeping[0] = (0, 1)
        self.ask(paper, False)
        paper.keeping[0] = (0,)
        del paper.floors[(0, ())]
        self.ask(paper, False)

    def test_equal(self):
        self.all_different(
            Loads(0, [], {}), Loads(1, [], {}), Loads(0, [()], {}), Loads(0, [(0,)], {}), Loads(0, [], {(0, ()): 0}))
        self.assertEqual(Loads(0, [(0,)], {(0, ()): 0}), Loads(0, [[0]], {(0, ()): 0}))
        self.assertNotEqual(Loads(0, [], {}), 0)
