"""Point [8], live variables."""

from registerrooms.errors import BadPoint, BadProgram, BadVariable
from registerrooms.programs import Program
from registerrooms.roads import Live, is_live, live_sets, lives
from registerrooms.single import Single
from tests.samples import FORK, LOOP, NO_PROGRAMS, SINGLE, STOP, RoomTest, made_single, random_programs, targets

SWAP = Single(6, (0, 1), (
    ((), (("put", 4, 1), ("put", 5, 3)), ("go", 1)),
    (((2, (0, 3)), (3, (1, 2))), (("tell", 2), ("tell", 3)), ("go", 1))))


def ways_on(program, point):
    """All pairs of a point to which a step leads and the variables that this step uses, and those it defines."""
    block, done = point
    if done < len(program.rows(block)):
        word, *rest = program.rows(block)[done]
        used = rest if word == "tell" else [] if word in ("put", "take") else rest[1:]
        return [((block, done + 1), used, [] if word == "tell" else rest[:1])]
    found = []
    for way, target in enumerate(targets(program.end(block))):
        joins = program.joins(target) if isinstance(program, Single) else ()
        edge = program.edges_into(target).index((block, way))
        found.append(((target, 0), [sources[edge] for _, sources in joins], [one for one, _ in joins]))
    return found


def uses(program, point):
    """The variables that are used directly behind a point."""
    used = [variable for _, some, _ in ways_on(program, point) for variable in some]
    block, done = point
    if done == len(program.rows(block)) and program.end(block)[0] == "part":
        used.append(program.end(block)[1])
    return used


def is_used_later(program, point, variable):
    """Whether a road of points leads to a use, going over all of them one after the other."""
    seen, waiting = {point}, [point]
    while waiting:
        now = waiting.pop()
        if variable in uses(program, now):
            return True
        for behind, _, defined in ways_on(program, now):
            if variable not in defined and behind not in seen:
                seen.add(behind)
                waiting.append(behind)
    return False


class LiveSetsTest(RoomTest):
    def test_example(self):
        found = [live_sets(LOOP)[point] for point in [(0, 0), (0, 1), (1, 0), (1, 2), (2, 0)]]
        self.assertEqual(found, [(), (0,), (0, 1), (0, 1), ()])

    def test_exactly_all_points_ascending(self):
        for program in (LOOP, FORK, SINGLE, SWAP):
            self.assertEqual(list(live_sets(program)), program.points)

    def test_in_one_block(self):
        rows = (("take", 0), ("tell", 0), ("put", 1, 2), ("add", 0, 1, 1), ("move", 1, 0), ("tell", 1))
        program = Program(2, ((rows, STOP),))
        self.assertEqual(list(live_sets(program).values()), [(), (0,), (), (1,), (0,), (1,), ()])

    def test_defined_by_the_row_that_uses_it(self):
        program = Program(2, (((("sub", 0, 0, 1), ("take", 0), ("tell", 0)), STOP),))
        self.assertEqual(list(live_sets(program).values()), [(0, 1), (), (0,), ()])
        late = Program(1, (((("add", 0, 0, 0),), STOP),))
        self.assertEqual(list(live_sets(late).values()), [(0,), ()])

    def test_around_a_loop(self):
        program = Program(2, (((), ("go", 1)), ((("tell", 0), ("put", 0, 2)), ("part", 1, 1, 2)), ((), STOP)))
        self.assertEqual(list(live_sets(program).values()), [(0, 1), (0, 1), (1,), (0, 1), ()])

    def test_in_ends(self):
        self.assertEqual(live_sets(FORK), {(0, 0): (0,), (1, 0): (), (2, 0): (), (3, 0): ()})

    def test_joins_are_used_on_their_edges(self):
        self.assertEqual(live_sets(SINGLE), {
            (0, 0): (0,), (0, 1): (0, 1), (1, 0): (1, 2), (1, 1): (1, 2), (1, 2): (1, 3), (2, 0): ()})
        self.assertEqual(live_sets(SWAP), {
            (0, 0): (0, 1), (0, 1): (0, 1), (0, 2): (0, 1), (1, 0): (2, 3), (1, 1): (2, 3), (1, 2): (2, 3)})

    def test_joins_on_both_ways_to_one_block(self):
        program = Single(4, (0, 1, 2), (((), (), ("part", 0, 1, 1)), (((3, (1, 2)),), (), STOP)))
        self.assertEqual(live_sets(program), {(0, 0): (0, 1, 2), (1, 0): ()})

    def test_a_join_of_a_variable_ends_its_life_ahead(self):
        program = Single(3, (0,), (
            ((), (), ("go", 1)), (((1, (0, 2)),), (("sub", 2, 1, 0),), ("part", 0, 1, 2)), ((), (("tell", 1),), STOP)))
        self.assertEqual(live_sets(program), {
            (0, 0): (0,), (1, 0): (0, 1), (1, 1): (0, 1, 2), (2, 0): (1,), (2, 1): ()})

    def test_any_programs(self):
        for program in random_programs(10, 50, many=2, count=4, rows=3, handed=1):
            for some in (program, made_single(program)):
                wanted = {point: tuple(one for one in range(some.many) if is_used_later(some, point, one))
                          for point in some.points}
                self.assertEqual(live_sets(some), wanted)
                found = lives(some)
                self.assertEqual(found.sets, wanted)
                self.assertTrue(found.shows(some))
                for point in some.points:
                    for one in range(some.many):
                        self.assertIs(is_live(some, point, one), one in wanted[point])

    def test_what_is_returned_is_new(self):
        live_sets(LOOP).clear()
        lives(LOOP).sets.clear()
        lives(LOOP).roads.clear()
        self.assertEqual(len(live_sets(LOOP)), 7)
        self.assertTrue(lives(LOOP).shows(LOOP))

    def test_errors(self):
        for program in NO_PROGRAMS:
            for ask in (live_sets, lives, Live({}, {}).shows, lives(LOOP).shows):
                self.assertIsNone(self.refused(BadProgram, ask, program).part)
            self.assertIsNone(self.refused(BadProgram, is_live, program, None, None).part)
        for point in (
                None, True, 0, (), (0,), (0, 0, 0), [0, 0], (3, 0), (-1, 0), (0, 3), (0, -1), (2, 1), (True, 0),
                (0, False), (0, None), ("0", 0), "00", ((0, 0), 0)):
            self.refused(BadPoint, is_live, LOOP, point, None)
        for variable in (-1, 2, True, False, None, "0", (0,), [0]):
            self.refused(BadVariable, is_live, LOOP, (0, 2), variable)
        self.refused(BadVariable, is_live, SINGLE, (0, 0), 4)


class LiveTest(RoomTest):
    def altered(self, program, sets=None, roads=None):
        """Whether sets and roads, with some of them changed, show what is live; None takes one out."""
        found = lives(program)
        for held, changes in ((found.sets, sets or {}), (found.roads, roads or {})):
            for key, worth in changes.items():
                if worth is None:
                    del held[key]
                else:
                    held[key] = worth
        return found.shows(program)

    def test_lives(self):
        for program in (LOOP, FORK, SINGLE, SWAP):
            found = lives(program)
            self.assertTrue(found.shows(program))
            self.assertEqual(list(found.sets), program.points)
            self.assertEqual(list(found.roads), [(point, one) for point in program.points for one in found.sets[point]])

    def test_sets(self):
        self.assertTrue(self.altered(LOOP))
        for point, worth in (
                ((0, 0), None), ((2, 0), None), ((1, 0), None), ((0, 0), (0,)), ((1, 0), (0,)), ((1, 0), (1, 0)),
                ((1, 0), (0, 1, 1)), ((1, 0), (0, 0, 1)), ((1, 0), (0, True)), ((1, 0), (0, 1, 2)), ((1, 0), ()),
                ((3, 0), ()), ((0, 3), ()), ((0, -1), ()), ((2, 1), ()), ("point", ()), ((0, 0, 0), ()), (0, ()),
                ((0, 1), (False,)), ((0, 1), [0]), ((1, 0), (0, -1))):
            self.assertFalse(self.altered(LOOP, sets={point: worth}), (point, worth))

    def test_booleans_in_points(self):
        found = lives(LOOP)
        for point, other in (((0, 0), (False, 0)), ((1, 1), (1, True))):
            sets = {other if key == point else key: worth for key, worth in found.sets.items()}
            self.assertFalse(Live(sets, found.roads).shows(LOOP))
        roads = {((1, False), 1) if key == ((1, 0), 1) else key: worth for key, worth in found.roads.items()}
        self.assertFalse(Live(found.sets, roads).shows(LOOP))
        roads = {((1, 0), True) if key == ((1, 0), 1) else key: worth for key, worth in found.roads.items()}
        self.assertFalse(Live(found.sets, roads).shows(LOOP))

    def test_pairs(self):
        for place, road in (
                (((1, 0), 0), None), (((0, 2), 1), None), (((0, 0), 0), ((0, 0),)), (((2, 0), 0), ((2, 0),)),
                (((1, 0), 2), ((1, 0),)), (((3, 0), 0), ((3, 0),)), (0, ()), ((0, 0, 0), ())):
            self.assertFalse(self.altered(LOOP, roads={place: road}), (place, road))
        for place in (((0, 0), 0), ((1, 0), 2), ((1, 0), -1), ((2, 1), 0), ((1, 0), 0, 0), ((1, 0),), 0, None, "place"):
            found = lives(LOOP)
            found.roads[place] = found.roads.pop(((1, 0), 0))
            self.assertFalse(found.shows(LOOP), place)

    def test_roads(self):
        for road, right in (
                (((0, 1), (0, 2), (1, 0)), True), (((0, 1), (0, 2), (1, 0), (1, 1)), True),
                (((0, 1), (0, 2), (1, 0), (1, 1), (1, 2)), False), (((0, 2), (1, 0)), False), (((0, 1), (0, 2)), False),
                (((0, 1), (1, 0)), False), ((), False), (((0, 1),), False), (((0, 1), (0, 2), (1, 0), (1, 2)), False),
                (((0, 0), (0, 1), (0, 2), (1, 0)), False), (((0, 1), (0, 2), (1, False)), False),
                (((0, True), (0, 2), (1, 0)), False), (((0, 1), (0, 2), (1, 0), (3, 0)), False),
                (((0, 1), (0, 2), (1, 3), (1, 0)), False), (((0, 1), 0), False), (((0, 1), (0, 2, 0)), False)):
            self.assertIs(self.altered(LOOP, roads={((0, 1), 0): road}), right, road)

    def test_roads_over_definitions_by_their_first_steps(self):
        self.assertFalse(self.altered(LOOP, roads={((1, 1), 0): ((1, 1), (1, 2), (1, 0))}))
        self.assertFalse(self.altered(SWAP, roads={((1, 2), 2): ((1, 2), (1, 0))}))

    def test_roads_around_a_loop(self):
        longer = ((1, 2), (1, 0), (1, 1), (1, 2), (1, 0), (1, 1))
        self.assertTrue(self.altered(LOOP, roads={((1, 2), 1): longer}))
        self.assertTrue(self.altered(LOOP, roads={((1, 2), 0): ((1, 2),)}))
        self.assertFalse(self.altered(LOOP, roads={((1, 2), 0): longer}))

    def test_roads_over_definitions_by_joins(self):
        self.assertTrue(self.altered(SWAP, roads={((1, 0), 2): ((1, 0), (1, 1), (1, 2))}))
        self.assertFalse(self.altered(SWAP, roads={((1, 1), 2): ((1, 1), (1, 2), (1, 0))}))
        self.assertTrue(self.altered(SWAP, roads={((0, 0), 0): ((0, 0), (0, 1), (0, 2))}))
        self.assertFalse(self.altered(SWAP, roads={((0, 0), 0): ((0, 0), (0, 1), (0, 2), (1, 0))}))
        self.assertFalse(self.altered(SWAP, roads={((0, 0), 0): ((0, 0), (0, 1))}))

    def test_in_another_order(self):
        found = lives(LOOP)
        sets = {point: found.sets[point] for point in reversed(list(found.sets))}
        roads = {place: found.roads[place] for place in reversed(list(found.roads))}
        self.assertTrue(Live(sets, roads).shows(LOOP))
        self.assertEqual(Live(sets, roads), found)

    def test_of_another_program(self):
        self.assertFalse(lives(FORK).shows(LOOP))
        self.assertFalse(lives(LOOP).shows(FORK))
        self.assertFalse(Live({}, {}).shows(FORK))

    def test_current_attributes(self):
        found = lives(LOOP)
        sets, roads = dict(found.sets), dict(found.roads)
        other = Live(sets, roads)
        sets.clear()
        roads.clear()
        self.assertEqual(other, found)
        self.assertTrue(other.shows(LOOP))
        other.roads.clear()
        self.assertFalse(other.shows(LOOP))
        other.roads = found.roads
        self.assertTrue(other.shows(LOOP))
        other.sets = {}
        self.assertFalse(other.shows(LOOP))

    def test_equality(self):
        sets, roads = {(0, 0): (0,)}, {((0, 0), 0): ((0, 0),)}
        self.assertEqual(Live(sets, roads), Live(dict(sets), dict(roads)))
        self.all_different(Live(sets, roads), Live({}, roads), Live(sets, {}), Live({}, {}), None, (sets, roads))
