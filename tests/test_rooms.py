"""Point [15], the fewest rooms, and trees of cases that refuse fewer."""

import itertools
import random

from registerrooms.errors import BadLimit, BadRivals
from registerrooms.rivals import Rivals
from registerrooms.rooms import Roomed, fewest, fewest_rooms, free_pairs, greatest_crowd, refused, refuses
from tests.samples import RoomTest
from tests.test_leaving import HUB, NO_RIVALS, PATH, TREE, all_rivals, full, some_rivals

FIVE = Rivals.circle(5)
CASES = ("cases", 0, 2, ("cases", 0, 3, ("clash", 2, 3), ("crowd", (0, 3, 4))), ("crowd", (0, 1, 2)))
NO_LIMITS = (-1, 9, True, False, None, "2", (2,), [2], 100)
NO_TREES = (
    (), 0, 3, None, "crowd", "clash", "cases", ("crowd",), ("clash",), ("cases",), ("crowd", 0), ("crowd", (0, 1, 2), 3),
    ("crowd", ()), ("crowd", 0, 1, 2), ("crowd", "012"), ("clash", 0), ("clash", (0, 0)), ("clash", 0, 0, 0),
    ("clash", "0", "0"), ("clash", (0,), (0,)), ("crowds", (0, 1, 2)), ("Crowd", (0, 1, 2)), (0, 1, 2), ((0, 1, 2),),
    ((), ()), ("cases", 0, 2), ("cases", 0, 2, ("crowd", (0, 1, 2))), ("cases", 0, 2, 3, 4), ("cases", 0, 2, (), ()),
    ("cases", (0, 2), ("clash", 0, 0), ("clash", 0, 0)), CASES + (CASES,), (CASES,), ("", (0, 1, 2)))


def hub(many):
    """A ring, and one more that is a rival of all of it."""
    ring = Rivals.circle(many - 1)
    return Rivals(many, tuple(sorted(ring.pairs + tuple((one, many - 1) for one in range(many - 1)))))


def special():
    """Rings, rings with a hub, crowds, none at all and all of them, of each number of variables."""
    found = [Rivals(many) for many in range(1, 9)] + [full(many) for many in range(1, 9)]
    found += [Rivals.circle(many) for many in range(3, 9)] + [hub(many) for many in range(4, 9)]
    found += [Rivals(8, full(many).pairs) for many in range(2, 8)]
    return found + [~Rivals.circle(many) for many in range(4, 9)] + [PATH, HUB, TREE]


def has_rooms(rivals, limit, lot=()):
    """Whether there are rooms for rivals, all less than the limit, in which a lot is together: all are tried out."""
    near = [[other for other in range(one) if (other, one) in rivals.pairs] for one in range(rivals.many)]
    same = [[other for other, last in lot if last == one] for one in range(rivals.many)]
    found = [()]
    for one in range(rivals.many):
        found = [some + (room,) for some in found for room in range(limit)
                 if all(some[other] != room for other in near[one]) and all(some[other] == room for other in same[one])
                 and room <= max(some, default=-1) + 1]
    return bool(found)


def is_refusing(rivals, limit, tree, together=(), apart=()):
    """Whether a tree refuses a number of rooms, by the words of the document."""
    def in_room(one):
        room, size = {one}, 0
        while len(room) > size:
            size = len(room)
            room |= {some for pair in together if room & set(pair) for some in pair}
        return frozenset(room)

    def are_apart(one, other):
        return any((a in one and b in other) or (b in one and a in other) for a, b in (*rivals.pairs, *apart))

    def is_variable(thing):
        return type(thing) is int and 0 <= thing < rivals.many

    if type(tree) is not tuple or not tree:
        return False
    word, *rest = tree
    if word == "crowd" and len(rest) == 1 and type(rest[0]) is tuple and all(map(is_variable, rest[0])):
        rooms = [in_room(one) for one in rest[0]]
        return len(rooms) > limit and all(
            one != other and are_apart(one, other) for one, other in itertools.combinations(rooms, 2))
    if word == "clash" and len(rest) == 2 and all(map(is_variable, rest)):
        return in_room(rest[0]) == in_room(rest[1]) and are_apart(in_room(rest[0]), in_room(rest[0]))
    if word == "cases" and len(rest) == 4 and all(map(is_variable, rest[:2])):
        pair = (rest[0], rest[1])
        return (is_refusing(rivals, limit, rest[2], (*together, pair), apart)
                and is_refusing(rivals, limit, rest[3], together, (*apart, pair)))
    return False


def random_tree(rng, many, depth):
    """Any tree, also with variables that are none."""
    kind = rng.randrange(4 if depth else 2)
    if kind == 0:
        return ("crowd", tuple(rng.sample(range(many), rng.randint(1, many))))
    if kind == 1:
        return ("clash", rng.randrange(many), rng.randrange(many))
    one, other = rng.randrange(many), rng.randrange(many)
    return ("cases", one, other, random_tree(rng, many, depth - 1), random_tree(rng, many, depth - 1))


def altered(rng, tree, many):
    """A tree with one thing in it that is another one."""
    if tree[0] == "cases" and rng.random() < 0.75:
        at = rng.choice((3, 4))
        return tree[:at] + (altered(rng, tree[at], many),) + tree[at + 1:]
    if tree[0] == "crowd" and rng.random() < 0.7:
        some = list(tree[1])
        some[rng.randrange(len(some))] = rng.randrange(-1, many + 1)
        return ("crowd", tuple(some[rng.randrange(2):]))
    return random_tree(rng, many, 1)


class FewestTest(RoomTest):
    def ask(self, rivals):
        """Ask what is found against trying out all rooms."""
        found = fewest(rivals)
        self.assertIs(type(found), Roomed)
        self.assertIs(found.shows(rivals), True)
        number = [has_rooms(rivals, limit) for limit in range(rivals.many + 1)].index(True)
        self.assertEqual((len(set(found.rooms)), max(found.rooms) + 1, fewest_rooms(rivals)), (number,) * 3)
        self.assertEqual((type(found.rooms), len(found.rooms)), (tuple, rivals.many))
        self.assertTrue(all(found.rooms[one] != found.rooms[other] for one, other in rivals.pairs))
        self.assertTrue(is_refusing(rivals, number - 1, found.tree))
        for limit in range(9):
            tree = refused(rivals, limit)
            self.assertIs(tree is None, limit >= number, (rivals.pairs, limit))
            if tree is not None:
                self.assertIs(refuses(rivals, limit, tree), True)
                self.assertTrue(is_refusing(rivals, limit, tree))
                self.assertIs(refuses(rivals, number, tree), False)

    def ask_crowds(self, rivals):
        """Ask the greatest crowd, and the free pairs, against trying out all."""
        crowds = [some for length in range(1, rivals.many + 1)
                  for some in itertools.combinations(range(rivals.many), length)
                  if all(pair in rivals.pairs for pair in itertools.combinations(some, 2))]
        most = max(map(len, crowds))
        self.assertEqual(greatest_crowd(rivals), min(some for some in crowds if len(some) == most))
        self.assertIs(type(greatest_crowd(rivals)), tuple)
        free = [pair for pair in itertools.combinations(range(rivals.many), 2) if pair not in rivals.pairs]
        self.assertEqual(free_pairs(rivals), free)
        self.assertIs(type(free_pairs(rivals)), list)

    def test_examples(self):
        self.assertEqual(
            [fewest_rooms(FIVE), refuses(FIVE, 2, CASES), refuses(FIVE, 3, CASES),
             Roomed((0, 1, 0, 1, 2), CASES).shows(FIVE), Roomed((0, 1, 2, 0, 3), CASES).shows(FIVE),
             greatest_crowd(FIVE), fewest(Rivals(2)).rooms],
            [3, True, False, True, False, (0, 1), (0, 0)])

    def test_all(self):
        for many in (1, 2, 3, 4):
            for rivals in all_rivals(many):
                self.ask(rivals)
                self.ask_crowds(rivals)

    def test_many(self):
        for many, times in ((5, 40), (6, 40), (7, 40), (8, 40)):
            for rivals in some_rivals(many, many, times):
                self.ask(rivals)
                self.ask_crowds(rivals)

    def test_special(self):
        for rivals in special():
            self.ask(rivals)
            self.ask_crowds(rivals)

    def test_numbers(self):
        for many in range(3, 9):
            self.assertEqual(fewest_rooms(Rivals.circle(many)), 2 + many % 2)
            self.assertEqual(fewest_rooms(hub(many + 1) if many < 8 else TREE), 3 + many % 2 if many < 8 else 2)
        for many in range(1, 9):
            self.assertEqual((fewest_rooms(Rivals(many)), fewest_rooms(full(many))), (1, many))
            self.assertEqual((fewest(Rivals(many)).rooms, len(fewest(full(many)).rooms)), ((0,) * many, many))

    def test_greatest_crowd(self):
        self.assertEqual(greatest_crowd(Rivals(4)), (0,))
        self.assertEqual(greatest_crowd(Rivals(4, ((1, 3), (2, 3)))), (1, 3))
        self.assertEqual(greatest_crowd(Rivals(6, ((0, 5), (1, 2), (1, 4), (2, 4), (3, 4), (3, 5), (4, 5)))), (1, 2, 4))
        self.assertEqual(greatest_crowd(Rivals(5, ((0, 3), (0, 4), (1, 2), (3, 4)))), (0, 3, 4))
        self.assertEqual(greatest_crowd(full(8)), tuple(range(8)))

    def test_no_rooms(self):
        for rivals in special():
            tree = refused(rivals, 0)
            self.assertIs(refuses(rivals, 0, tree), True)
            for one in range(rivals.many):
                self.assertIs(refuses(rivals, 0, ("crowd", (one,))), True)
                self.assertIs(refuses(rivals, 1, ("crowd", (one,))), False)
            self.assertIs(refuses(rivals, 0, ("crowd", ())), False)

    def test_new_each_time(self):
        for rivals in (FIVE, Rivals(3), full(4)):
            before = (rivals.many, rivals.pairs)
            self.assertEqual(fewest(rivals), fewest(rivals))
            self.assertIsNot(fewest(rivals), fewest(rivals))
            free_pairs(rivals).append(7)
            self.assertIsNot(free_pairs(rivals), free_pairs(rivals))
            self.ask_crowds(rivals)
            self.assertEqual((rivals.many, rivals.pairs), before)

    def test_errors(self):
        for rivals in NO_RIVALS:
            for ask in (fewest, fewest_rooms, greatest_crowd, free_pairs, Roomed((), ()).shows):
                self.assertIsNone(self.refused(BadRivals, ask, rivals).part)
            for limit in (2, *NO_LIMITS):
                self.assertIsNone(self.refused(BadRivals, refused, rivals, limit).part)
                self.assertIsNone(self.refused(BadRivals, refuses, rivals, limit, CASES).part)
        for limit in NO_LIMITS:
            self.refused(BadLimit, refused, FIVE, limit)
            self.refused(BadLimit, refuses, FIVE, limit, CASES)
            self.refused(BadLimit, refuses, FIVE, limit, ())


class TreesTest(RoomTest):
    def test_no_trees(self):
        for tree in NO_TREES:
            for limit in range(3):
                self.assertIs(refuses(full(4), limit, tree), False, tree)
            for some in (("cases", 0, 1, tree, ("clash", 0, 0)), ("cases", 0, 0, ("crowd", (0, 1, 2)), tree)):
                self.assertIs(refuses(full(4), 2, some), False, some)
        self.assertIs(refuses(full(4), 2, ("cases", 0, 1, ("clash", 0, 0), ("crowd", (0, 1, 2)))), True)

    def test_crowds(self):
        for crowd, goal in (
                ((0, 1, 2), True), ((2, 0, 1), True), ((0, 1, 2, 3), True), ((0, 1), False), ((0, 1, 1), False),
                ((0, 1, 2, 2), False), ((0, 1, 4), False), ((0, 1, -1), False), ((0, True, 2), False),
                ((False, 1, 2), False), ((0, 1, None), False), ((0, 1, "2"), False), ((0, 1, (2,)), False), ((), False)):
            self.assertIs(refuses(full(4), 2, ("crowd", crowd)), goal, crowd)
        self.assertIs(refuses(full(4) - Rivals(4, ((1, 2),)), 2, ("crowd", (0, 1, 2))), False)
        self.assertIs(refuses(full(4) - Rivals(4, ((1, 2),)), 2, ("crowd", (0, 1, 3))), True)
        self.assertIs(refuses(full(4), 2, ("crowd", [0, 1, 2])), False)
        # Two in one room, and rooms that are apart by another variable of theirs.
        path = Rivals(5, ((0, 1), (1, 2), (3, 4)))
        for crowd, goal in (((0, 1), True), ((2, 1), True), ((0, 2), False), ((3, 1), True), ((4, 3), True),
                            ((0, 4), True), ((1, 4), False), ((0, 1, 4), False), ((1, 2, 3), False)):
            tree = ("cases", 0, 3, ("crowd", crowd), ("crowd", (0, 1)))
            self.assertIs(refuses(path, 1, tree), goal, crowd)

    def test_clashes(self):
        path = Rivals(4, ((0, 1), (1, 2)))
        for tree, goal in (
                (("cases", 0, 1, ("clash", 0, 1), ("crowd", (0, 1))), True),
                (("cases", 0, 1, ("clash", 1, 0), ("crowd", (0, 1))), True),
                (("cases", 0, 1, ("clash", 0, 0), ("crowd", (0, 1))), True),
                (("cases", 0, 1, ("clash", 1, 1), ("crowd", (0, 1))), True),
                (("cases", 0, 1, ("clash", 2, 2), ("crowd", (0, 1))), False),
                (("cases", 0, 1, ("clash", 1, 2), ("crowd", (0, 1))), False),
                (("cases", 0, 2, ("clash", 0, 2), ("crowd", (0, 1))), False),
                (("cases", 0, 2, ("clash", 0, 0), ("crowd", (0, 1))), False),
                (("cases", 0, 1, ("clash", 0, 4), ("crowd", (0, 1))), False),
                (("cases", 0, 1, ("clash", -1, 0), ("crowd", (0, 1))), False),
                (("cases", 0, 1, ("clash", 0, True), ("crowd", (0, 1))), False),
                (("cases", 0, 1, ("clash", False, 1), ("crowd", (0, 1))), False),
                (("clash", 0, 0), False), (("clash", 0, 1), False), (("clash", 0, 2), False)):
            self.assertIs(refuses(path, 1, tree), goal, tree)
        # Negative numbers are no variables, and do not stand for the last ones.
        two, crowd = full(2), ("crowd", (0, 1))
        for one, other, goal in ((0, 1, True), (0, -1, False), (-1, 0, False), (-2, 1, False), (-1, -1, False)):
            self.assertIs(refuses(two, 1, ("cases", 0, 1, ("clash", one, other), crowd)), goal)
            self.assertIs(refuses(two, 1, ("cases", one, other, ("clash", 0, 1), crowd)), goal)
            self.assertIs(refuses(two, 1, ("crowd", (one, other))), goal)

    def test_clashes_of_what_was_chosen_to_be_apart(self):
        none = Rivals(3)
        crowd = ("crowd", (0, 1))
        # Apart first, and together then: whatever rooms there are.
        for tree, goal in (
                (("cases", 0, 1, ("crowd", (0,)), ("cases", 0, 1, ("clash", 0, 1), crowd)), False),
                (("cases", 0, 0, ("clash", 0, 0), ("clash", 0, 0)), False),
                (("cases", 0, 0, crowd, ("clash", 0, 0)), False)):
            self.assertIs(refuses(none, 1, tree), goal, tree)
        two = Rivals(3, ((0, 1),))
        for tree in (
                ("cases", 0, 2, crowd, ("cases", 0, 2, ("clash", 0, 2), crowd)),
                ("cases", 0, 2, crowd, ("cases", 0, 2, ("clash", 0, 0), crowd)),
                ("cases", 2, 2, crowd, ("clash", 2, 2)),
                ("cases", 0, 2, ("cases", 0, 2, crowd, ("clash", 0, 2)), crowd),
                ("cases", 0, 2, ("cases", 2, 0, crowd, ("clash", 2, 2)), ("crowd", (2, 0))),
                ("cases", 0, 1, ("clash", 0, 1), crowd),
                ("cases", 1, 0, ("clash", 0, 1), ("crowd", (1, 0)))):
            self.assertIs(refuses(two, 1, tree), True, tree)
            self.assertIs(is_refusing(two, 1, tree), True)
        for tree in (
                ("cases", 2, 2, ("clash", 2, 2), crowd),
                ("cases", 2, 2, crowd, ("clash", 0, 0)),
                ("cases", 0, 2, ("clash", 0, 2), crowd),
                ("cases", 0, 2, crowd, ("clash", 0, 2)),
                ("cases", 0, 2, ("crowd", (0, 2)), crowd),
                ("cases", 0, 3, crowd, crowd), ("cases", -1, 2, crowd, crowd), ("cases", True, 2, crowd, crowd),
                ("cases", 0, False, crowd, crowd), ("cases", "0", 1, crowd, crowd), ("cases", None, None, crowd, crowd)):
            self.assertIs(refuses(two, 1, tree), False, tree)
            self.assertIs(is_refusing(two, 1, tree), False)

    def test_together_by_way_of_others(self):
        rivals = Rivals(4, ((0, 3),))
        last = ("crowd", (0, 3))
        tree = ("cases", 0, 1, ("cases", 1, 2, ("cases", 3, 2, ("clash", 0, 3), last), last), last)
        self.assertIs(refuses(rivals, 1, tree), True)
        self.assertIs(refuses(rivals, 1, tree[:3] + (tree[3][3], last)), False)
        for crowd, goal in (((2, 3), True), ((0, 2), False), ((1, 3), True)):
            some = ("cases", 0, 1, ("cases", 1, 2, ("crowd", crowd), last), last)
            self.assertIs(refuses(rivals, 1, some), goal)

    def test_what_was_chosen_above(self):
        # Right behind the choices above only.
        self.assertIs(refuses(FIVE, 2, CASES), True)
        self.assertIs(refuses(FIVE, 2, CASES[3]), False)
        self.assertIs(refuses(FIVE, 2, CASES[4]), False)
        self.assertIs(refuses(FIVE, 2, CASES[:3] + (CASES[4], CASES[3])), False)
        self.assertIs(refuses(FIVE, 2, CASES[:1] + (2, 0) + CASES[3:]), True)
        self.assertIs(refuses(FIVE, 2, CASES[:1] + (0, 3) + CASES[3:]), False)
        self.assertIs(refuses(FIVE, 1, CASES), True)

    def test_generated(self):
        rng = random.Random(15)
        right = 0
        several = [rivals for many in (2, 3, 4) for rivals in all_rivals(many)] + special()
        for rivals in several:
            for limit in range(4):
                tree = refused(rivals, limit)
                trees = [random_tree(rng, rivals.many, 2) for _ in range(4)]
                if tree is not None:
                    trees += [altered(rng, tree, rivals.many) for _ in range(8)]
                    trees += [("cases", rng.randrange(rivals.many), rng.randrange(rivals.many), tree, tree)]
                for some in trees:
                    goal = is_refusing(rivals, limit, some)
                    self.assertIs(refuses(rivals, limit, some), goal, (rivals.pairs, limit, some))
                    right += goal
                    if goal:
                        self.assertFalse(has_rooms(rivals, limit))
        self.assertGreater(right, 200)

    def test_deep(self):
        tree = ("crowd", (0, 1))
        for _ in range(400):
            tree = ("cases", 0, 1, ("clash", 0, 1), tree)
        self.assertIs(refuses(full(2), 1, tree), True)
        self.assertIs(refuses(full(2), 2, tree), False)


class RoomedTest(RoomTest):
    def test_rooms(self):
        for rooms, goal in (
                ((0, 1, 0, 1, 2), True), ((2, 1, 2, 1, 0), True), ((1, 0, 2, 0, 2), True), ((0, 1, 0, 1, 3), False),
                ((1, 2, 1, 2, 3), False), ((0, 1, 2, 0, 3), False), ((0, 1, 0, 1, 1), False), ((0, 1, 0, 1, 0), False),
                ((0, 1, 0, 1), False), ((0, 1, 0, 1, 2, 0), False), ((), False), ((0, 1, 0, 1, -1), False),
                ((0, True, 0, 1, 2), False), ((False, 1, 0, 1, 2), False), ((0, 1, 0, 1, None), False),
                ((0, 1, 0, 1, 5), False), ((0, 1, 2, 3, 4), False), ([0, 1, 0, 1, 2], False)):
            self.assertIs(Roomed(rooms, CASES).shows(FIVE), goal, rooms)

    def test_trees(self):
        rooms = fewest(FIVE).rooms
        for limit, goal in ((0, False), (1, False), (2, True)):
            self.assertIs(Roomed(rooms, refused(FIVE, limit)).shows(FIVE), goal, limit)
        for tree in NO_TREES:
            self.assertIs(Roomed(rooms, tree).shows(FIVE), False)
        self.assertIs(Roomed(rooms, ("crowd", (0, 1, 2))).shows(FIVE), False)
        # Four rooms, and a tree for three of them, which there is not, or for two.
        self.assertIs(Roomed((0, 1, 2, 1, 3), CASES).shows(FIVE), False)
        self.assertIs(Roomed((0, 1, 2, 1, 3), refused(FIVE, 2)).shows(FIVE), False)

    def test_one_room(self):
        for many in range(1, 9):
            self.assertIs(Roomed((0,) * many, ("crowd", (many - 1,))).shows(Rivals(many)), True)
            self.assertIs(Roomed((1,) * many, ("crowd", (many - 1,))).shows(Rivals(many)), False)
            self.assertIs(Roomed((0,) * many, ("crowd", ())).shows(Rivals(many)), False)
            self.assertIs(Roomed((0,) * many, ("crowd", (many,))).shows(Rivals(many)), False)

    def test_all_rooms(self):
        for rivals in all_rivals(3) + some_rivals(16, 4, 12):
            least = fewest_rooms(rivals)
            tree = fewest(rivals).tree
            for rooms in itertools.product(range(rivals.many), repeat=rivals.many):
                goal = (set(rooms) == set(range(least))
                        and all(rooms[one] != rooms[other] for one, other in rivals.pairs))
                self.assertIs(Roomed(rooms, tree).shows(rivals), goal, (rivals.pairs, rooms))

    def test_current_attributes(self):
        paper = Roomed((0, 1, 0, 1, 2), CASES)
        self.assertTrue(paper.shows(FIVE))
        paper.rooms = (0, 1, 0, 0, 2)
        self.assertFalse(paper.shows(FIVE))
        paper.rooms, paper.tree = (0, 1, 0, 1, 2), CASES[3]
        self.assertFalse(paper.shows(FIVE))

    def test_equal(self):
        self.all_different(Roomed((0,), ("crowd", (0,))), Roomed((1,), ("crowd", (0,))), Roomed((0,), ("clash", 0, 0)))
        self.assertEqual(Roomed((0, 1), CASES), Roomed((0, 1), CASES))
        self.assertNotEqual(Roomed((0,), ()), (0,))
