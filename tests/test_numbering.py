"""Point [20], which variables have one number."""

import itertools
import random

from registerrooms.errors import BadSingle, BadVariable
from registerrooms.making import to_single
from registerrooms.numbering import Numbered, are_one, number_all, root
from registerrooms.single import Single
from tests.samples import LOOP, NO_PROGRAMS, SINGLE, STOP, RoomTest, made_single, random_programs, tuples
from tests.test_held import COUNTED, UNUSED

STRAIGHT = Single(6, (0,), (
    ((), (("move", 1, 0), ("add", 2, 0, 0), ("add", 3, 1, 0), ("put", 4, 2), ("put", 5, 2), ("tell", 3)), STOP),))
# Joins 2 and 3, and the sums 5 and 6, are alike only together.
TOGETHER = Single(8, (7,), (
    ((), (("put", 0, 0), ("put", 1, 0), ("put", 4, 1)), ("go", 1)),
    (((2, (0, 5)), (3, (1, 6))), (("add", 5, 2, 4), ("add", 6, 3, 4)), ("part", 7, 1, 2)),
    ((), (("tell", 5), ("tell", 6)), STOP)))
# The same, but that the joins begin with different numbers.
APART = Single(8, (7,), (
    ((), (("put", 0, 0), ("put", 1, 2), ("put", 4, 1)), ("go", 1)),
    (((2, (0, 5)), (3, (1, 6))), (("add", 5, 2, 4), ("add", 6, 3, 4)), ("part", 7, 1, 2)),
    ((), (("tell", 5), ("tell", 6)), STOP)))
# Joins of different blocks with the same variables, and two of one block; moves of joins.
BLOCKS = Single(9, (0, 1, 2), (
    ((), (), ("part", 0, 1, 2)),
    ((), (), ("go", 3)), ((), (), ("go", 3)),
    (((3, (1, 2)), (4, (1, 2)), (5, (2, 1))), (("move", 6, 4),), ("part", 0, 4, 4)),
    (((7, (1, 2)), (8, (3, 6))), (), STOP)))
NO_VARIABLES = (-1, 6, 48, True, False, None, "1", (1,), [1])


def straight(rows, handed=(), *, span=4):
    """A single program of one block."""
    many = len(handed) + sum(row[0] != "tell" for row in rows)
    return Single(many, handed, (((), tuple(rows), STOP),), span=span)


def definitions(single):
    """A dict from each variable to the word of its definition, what tells it from others, and what it uses."""
    found = {variable: ("handed", variable, ()) for variable in single.handed}
    for block in range(len(single)):
        found.update({variable: ("join", block, sources) for variable, sources in single.joins(block)})
        for row in single.rows(block):
            if row[0] in ("put", "take"):
                found[row[1]] = (row[0], row[2] if row[0] == "put" else row[1], ())
            elif row[0] != "tell":
                found[row[1]] = (row[0], None, row[2:])
    return found


def moved_from(single, variable):
    """What a variable was moved from."""
    word, _, used = definitions(single)[variable]
    return moved_from(single, used[0]) if word == "move" else variable


def all_alike(single):
    """The set of all pairs of variables of one class: all pairs, but for those that are not alike, again and again."""
    found = definitions(single)
    roots = [moved_from(single, variable) for variable in range(single.many)]
    pairs = set(itertools.product(range(single.many), repeat=2))
    while True:
        kept = set()
        for one, other in pairs:
            (word, what, used), (last, that, more) = found[roots[one]], found[roots[other]]
            if (word, what) == (last, that) and all(pair in pairs for pair in zip(used, more)):
                kept.add((one, other))
        if kept == pairs:
            return pairs
        pairs = kept


def parting(single):
    """The classes."""
    pairs = all_alike(single)
    classes = {tuple(other for other in range(single.many) if (one, other) in pairs) for one in range(single.many)}
    return sorted(classes)


def is_right(paper, single):
    """Whether a Numbered is right, by the words of the document."""
    if paper.classes != parting(single):
        return False
    found = definitions(single)
    roots = [moved_from(single, variable) for variable in range(single.many)]
    home = {variable: some for some in paper.classes for variable in some}
    pairs = {(one, other) for one, other in itertools.combinations(range(single.many), 2) if home[one] != home[other]}
    if set(paper.ranks) != pairs:
        return False
    for (one, other), (rank, place) in paper.ranks.items():
        (word, what, used), (last, that, more) = found[roots[one]], found[roots[other]]
        if (word, what) != (last, that):
            if (rank, place) != (0, None):
                return False
            continue
        if rank <= 0 or place is None or not 0 <= place < len(used):
            return False
        before = tuple(sorted((roots[used[place]], roots[more[place]])))
        if before not in pairs or not paper.ranks[before][0] < rank:
            return False
    return True


def singles(seed, times, **named):
    """Single programs made of so many plain ones, each in two ways."""
    found = []
    for program in random_programs(seed, times, **named):
        found += [to_single(program), made_single(program)]
    return found


class NumberingTest(RoomTest):
    def ask(self, single):
        """Ask what is found against an own way of parting."""
        found = number_all(single)
        self.assertIs(type(found), Numbered)
        self.assertIs(found.shows(single), True)
        self.assertEqual(found.classes, parting(single))
        self.assertTrue(is_right(found, single))
        self.assertEqual((type(found.classes), type(found.ranks)), (list, dict))
        alike = all_alike(single)
        for one in range(single.many):
            self.assertEqual(root(single, one), moved_from(single, one))
            for other in range(0, single.many, 1 + single.many // 6):
                self.assertIs(are_one(single, one, other), (one, other) in alike)
                self.assertIs(are_one(single, other, one), (one, other) in alike)

    def test_examples(self):
        self.assertEqual(
            [number_all(STRAIGHT).classes, are_one(STRAIGHT, 2, 3), are_one(STRAIGHT, 2, 4), root(STRAIGHT, 1),
             number_all(STRAIGHT).shows(STRAIGHT),
             Numbered([(0,), (1,), (2, 3), (4, 5)], {}).shows(STRAIGHT)],
            [[(0, 1), (2, 3), (4, 5)], True, False, 0, True, False])

    def test_ordinary(self):
        for single in (STRAIGHT, TOGETHER, APART, BLOCKS, SINGLE, COUNTED, UNUSED, to_single(LOOP), made_single(LOOP)):
            self.ask(single)

    def test_moves(self):
        rows = [("move", 1, 0), ("move", 2, 1), ("move", 3, 2), ("put", 4, 1), ("move", 5, 4), ("move", 6, 5), ("put", 7, 1)]
        single = straight(rows, (0,))
        self.assertEqual([root(single, one) for one in range(8)], [0, 0, 0, 0, 4, 4, 4, 7])
        self.assertEqual(number_all(single).classes, [(0, 1, 2, 3), (4, 5, 6, 7)])
        self.ask(single)
        self.assertEqual([root(BLOCKS, one) for one in (4, 6, 8)], [4, 4, 8])

    def test_puts_and_takes(self):
        rows = [("put", 2, 0), ("put", 3, 1), ("put", 4, 0), ("take", 5), ("take", 6), ("move", 7, 5)]
        single = straight(rows, (0, 1))
        self.assertEqual(number_all(single).classes, [(0,), (1,), (2, 4), (3,), (5, 7), (6,)])
        self.assertTrue(all(rank == (0, None) for rank in number_all(single).ranks.values()))
        self.ask(single)

    def test_words_and_places(self):
        for word in ("add", "sub", "less"):
            rows = [(word, 2, 0, 1), (word, 3, 1, 0), (word, 4, 0, 1), (word, 5, 2, 3), (word, 6, 4, 3), (word, 7, 3, 2)]
            single = straight(rows, (0, 1))
            self.assertEqual(number_all(single).classes, [(0,), (1,), (2, 4), (3,), (5, 6), (7,)])
            found = number_all(single)
            self.assertEqual([found.ranks[2, 3], found.ranks[5, 7], found.ranks[2, 5]], [(1, 0), (2, 0), (1, 0)])
            self.ask(single)
        single = straight([("add", 2, 0, 1), ("sub", 3, 0, 1), ("less", 4, 0, 1), ("add", 5, 0, 0)], (0, 1))
        self.assertEqual(number_all(single).classes, [(0,), (1,), (2,), (3,), (4,), (5,)])
        self.assertEqual([number_all(single).ranks[pair] for pair in ((2, 3), (3, 4), (2, 5))], [(0, None), (0, None), (1, 1)])
        self.ask(single)

    def test_joins(self):
        self.assertEqual(number_all(BLOCKS).classes, [(0,), (1,), (2,), (3, 4, 6), (5,), (7,), (8,)])
        self.assertEqual([number_all(BLOCKS).ranks[pair] for pair in ((3, 5), (3, 7), (7, 8))], [(1, 0), (0, None), (1, 0)])
        self.assertEqual(number_all(TOGETHER).classes, [(0, 1), (2, 3), (4,), (5, 6), (7,)])
        self.assertEqual(number_all(APART).classes, [(one,) for one in range(8)])
        ranks = number_all(APART).ranks
        self.assertEqual((ranks[0, 1], ranks[2, 3], ranks[5, 6]), ((0, None), (1, 0), (2, 0)))

    def test_generated(self):
        words = ("put", "move", "move", "add", "sub", "less", "take")
        for single in (singles(51, 40, many=2, count=3, rows=3, handed=1, words=words)
                       + singles(52, 25, many=3, count=4, rows=2, handed=2, words=words)
                       + singles(53, 25, many=2, count=4, rows=2, words=("move", "put", "add"))):
            self.ask(single)

    def test_long_chains(self):
        # A chain of sums: each pair of them is parted by the one ahead.
        rows = [("put", 0, 1), ("put", 1, 2)]
        for at in range(2, 24):
            rows.append(("add", at, at - 1, at - 2))
        single = straight(rows)
        found = number_all(single)
        self.assertEqual(len(found.classes), 24)
        self.assertTrue(found.shows(single))
        self.assertTrue(is_right(found, single))
        full = straight([("move", at, 0) for at in range(1, 25)], (0,))
        self.assertEqual(number_all(full), Numbered([tuple(range(25))], {}))

    def test_one_number_when_run(self):
        # In one block, variables of one class have the same number, whatever is handed in.
        rng = random.Random(54)
        for _ in range(60):
            rows = [(rng.choice(("add", "sub", "less")), at, rng.randrange(at), rng.randrange(at)) for at in range(2, 9)]
            single = straight(rows, (0, 1), span=3)
            for handed in tuples(range(3), 2):
                numbers = list(handed)
                for word, _, one, other in rows:
                    one, other = numbers[one], numbers[other]
                    numbers.append({"add": (one + other) % 3, "sub": (one - other) % 3, "less": int(one < other)}[word])
                for some in number_all(single).classes:
                    self.assertEqual(len({numbers[one] for one in some}), 1)

    def test_new_each_time(self):
        one, other = number_all(APART), number_all(APART)
        self.assertEqual(one, other)
        self.assertIsNot(one, other)
        one.classes.clear()
        one.ranks.clear()
        self.assertTrue(other.classes and other.ranks and number_all(APART).shows(APART))

    def test_errors(self):
        for single in (*NO_PROGRAMS, LOOP):
            for ask in (number_all, Numbered([], {}).shows, number_all(STRAIGHT).shows):
                self.assertIsNone(self.refused(BadSingle, ask, single).part)
            for variable in (0, 7, None, True):
                self.assertIsNone(self.refused(BadSingle, root, single, variable).part)
                self.assertIsNone(self.refused(BadSingle, are_one, single, variable, 0).part)
        for variable in NO_VARIABLES:
            self.refused(BadVariable, root, STRAIGHT, variable)
            self.refused(BadVariable, are_one, STRAIGHT, variable, 0)
            self.refused(BadVariable, are_one, STRAIGHT, 0, variable)
            self.refused(BadVariable, are_one, STRAIGHT, variable, variable)


class PapersTest(RoomTest):
    def ask(self, paper, goal, single):
        """Ask whether a paper shows, and whether it ought to."""
        self.assertIs(paper.shows(single), goal, vars(paper))

    def test_classes(self):
        for single in (STRAIGHT, TOGETHER, BLOCKS):
            found = number_all(single)
            classes = found.classes
            wrong = [[], classes[:-1], classes[1:], classes[::-1], classes + classes[-1:], classes + [()], [()] + classes,
                     classes[:1] + classes, classes + [(single.many,)], [some[::-1] for some in classes],
                     [some + some[:1] for some in classes[:1]] + classes[1:], [list(some) for some in classes],
                     classes[1:2] + classes[:1] + classes[2:], classes[:-1] + [classes[-1] + (single.many,)],
                     [tuple(range(single.many))], [(one,) for one in range(single.many)],
                     [(-1, *classes[0])] + classes[1:], [(False, *classes[0][1:])] + classes[1:], classes + [(0,)]]
            for at in range(len(classes)):
                wrong.append(classes[:at] + classes[at + 1:])
                wrong.append(classes[:at] + [classes[at][1:]] + classes[at + 1:])
                for last in range(at + 1, len(classes)):
                    joined = tuple(sorted(classes[at] + classes[last]))
                    wrong.append(classes[:at] + [joined] + classes[at + 1:last] + classes[last + 1:])
            for some in wrong:
                self.ask(Numbered(some, found.ranks), False, single)
                self.ask(Numbered(some, {}), False, single)

    def test_parted_or_put_together_with_their_own_ranks(self):
        # Classes that are not the coarsest, with ranks for all of their pairs.
        found = number_all(TOGETHER)
        classes = [(0, 1), (2,), (3,), (4,), (5,), (6,), (7,)]
        for ranks in ({(2, 3): (1, 1), (5, 6): (2, 0)}, {(2, 3): (2, 1), (5, 6): (1, 0)}, {(2, 3): (0, None), (5, 6): (1, 0)},
                      {(2, 3): (1, 0), (5, 6): (2, 0)}, {(2, 3): (0, None), (5, 6): (0, None)},
                      {(2, 3): (1, 1), (5, 6): (1, 0)}):
            self.ask(Numbered(classes, {**found.ranks, **ranks}), False, TOGETHER)
        found = number_all(APART)
        classes = [(0,), (1,), (2, 3), (4,), (5, 6), (7,)]
        less = {pair: rank for pair, rank in found.ranks.items() if pair not in ((2, 3), (5, 6))}
        self.ask(Numbered(classes, less), False, APART)
        self.ask(Numbered(classes, found.ranks), False, APART)

    def test_keys(self):
        for single in (STRAIGHT, APART, BLOCKS):
            found = number_all(single)
            self.ask(found, True, single)
            for pair in found.ranks:
                less = {some: rank for some, rank in found.ranks.items() if some != pair}
                self.ask(Numbered(found.classes, less), False, single)
                self.ask(Numbered(found.classes, {**less, pair[::-1]: found.ranks[pair]}), False, single)
                self.ask(Numbered(found.classes, {**less, pair + (0,): found.ranks[pair]}), False, single)
            for pair in ((0, 0), (1, 0), (0, single.many), (-1, 0), (0,), (), (0, 1, 2), (0, None)):
                self.ask(Numbered(found.classes, {**found.ranks, pair: (0, None)}), False, single)
            for pair in [pair for some in found.classes for pair in itertools.combinations(some, 2)]:
                self.ask(Numbered(found.classes, {**found.ranks, pair: (0, None)}), False, single)
                self.ask(Numbered(found.classes, {**found.ranks, pair: (9, 0)}), False, single)
        found = number_all(STRAIGHT)
        keys = {pair if pair != (1, 4) else (True, 4): rank for pair, rank in found.ranks.items()}
        self.assertEqual(keys, found.ranks)
        self.ask(Numbered(found.classes, keys), False, STRAIGHT)

    def test_ranks(self):
        for single in (STRAIGHT, APART, BLOCKS, straight([("add", 2, 0, 1), ("add", 3, 1, 0), ("add", 4, 1, 1)], (0, 1))):
            found = number_all(single)
            for pair, (rank, place) in found.ranks.items():
                for other in ((rank, None), (rank, 0), (rank, 1), (rank, 2), (rank, -1), (0, None), (0, 0), (1, None), (1, 0),
                              (1, 1), (2, 0), (2, 1), (3, 1), (-1, None), (-1, 0), (rank + 5, place), (rank - 1, place)):
                    paper = Numbered(found.classes, {**found.ranks, pair: other})
                    self.ask(paper, is_right(paper, single), single)
                for other in ((False, None), (True, 0), (rank, False), (rank, True), (None, None), (), (rank,),
                              (rank, place, 0), [rank, place], rank, None):
                    if other != (0, None) or type(other[0]) is bool:
                        self.ask(Numbered(found.classes, {**found.ranks, pair: other}), False, single)

    def test_greater_ranks(self):
        # Any greater integers may stand where they grow with what they lean on.
        found = number_all(APART)
        self.ask(Numbered(found.classes, {pair: (3 * rank, place) for pair, (rank, place) in found.ranks.items()}), True, APART)
        self.ask(Numbered(found.classes, {**found.ranks, (5, 6): (7, 0)}), True, APART)
        self.ask(Numbered(found.classes, {**found.ranks, (2, 3): (2, 0)}), False, APART)
        self.ask(Numbered(found.classes, {**found.ranks, (2, 3): (2, 0), (5, 6): (3, 0)}), True, APART)
        # The joins are parted by what comes around the loop, too, if that has a lesser integer.
        self.ask(Numbered(found.classes, {**found.ranks, (2, 3): (3, 1)}), False, APART)
        self.ask(Numbered(found.classes, {**found.ranks, (2, 3): (1, 1)}), False, APART)
        single = straight([("move", 2, 0), ("add", 3, 2, 1), ("add", 4, 1, 0), ("move", 5, 4)], (0, 1))
        found = number_all(single)
        self.assertEqual(found.ranks[3, 5], (1, 0))
        self.ask(Numbered(found.classes, {**found.ranks, (3, 5): (1, 1)}), True, single)
        self.ask(Numbered(found.classes, {**found.ranks, (3, 5): (4, 1), (3, 4): (2, 0)}), True, single)

    def test_moved_from(self):
        # What is used was moved: the pair of what it was moved from must have a lesser integer, not its own one.
        single = straight([("add", 2, 0, 0), ("add", 3, 1, 1), ("move", 4, 2), ("move", 5, 3), ("sub", 6, 4, 4),
                           ("sub", 7, 5, 5)], (0, 1))
        found = number_all(single)
        self.assertEqual([found.ranks[pair] for pair in ((2, 3), (4, 5), (6, 7))], [(1, 0), (1, 0), (2, 0)])
        self.ask(Numbered(found.classes, {**found.ranks, (4, 5): (9, 0)}), True, single)
        self.ask(Numbered(found.classes, {**found.ranks, (4, 5): (9, 1), (6, 7): (2, 1)}), True, single)
        self.ask(Numbered(found.classes, {**found.ranks, (2, 3): (9, 0)}), False, single)
        self.ask(Numbered(found.classes, {**found.ranks, (2, 3): (9, 0), (6, 7): (10, 0)}), True, single)

    def test_dicts_in_another_order(self):
        for single in (STRAIGHT, APART):
            found = number_all(single)
            turned = Numbered(found.classes, dict(reversed(found.ranks.items())))
            self.ask(turned, True, single)
            self.assertEqual(turned, found)

    def test_another_program(self):
        self.ask(number_all(TOGETHER), False, APART)
        self.ask(number_all(APART), False, TOGETHER)
        self.ask(number_all(STRAIGHT), False, SINGLE)

    def test_copies_and_current_attributes(self):
        found = number_all(APART)
        classes, ranks = list(found.classes), dict(found.ranks)
        paper = Numbered(classes, ranks)
        classes.clear()
        ranks.clear()
        self.ask(paper, True, APART)
        paper.ranks[2, 3] = (0, None)
        self.ask(paper, False, APART)
        paper.ranks[2, 3] = (1, 0)
        paper.classes.reverse()
        self.ask(paper, False, APART)

    def test_equal(self):
        self.all_different(Numbered([], {}), Numbered([(0,)], {}), Numbered([], {(0, 1): (0, None)}))
        self.assertEqual(Numbered([(0,)], {}), Numbered([(0,)], {}))
        self.assertNotEqual(Numbered([], {}), [])
