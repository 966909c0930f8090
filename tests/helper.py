"""What the tests share: wrong values, tables of calls, and worlds worked out step by step."""

import copy
import doctest
import importlib
import itertools

from parkedrows import errors
from parkedrows.lifebenches import Bench
from parkedrows.lifevalues import Marked

P, U, L = (1, 0, 0), (0, 1, 2), (0, 0, 0)
W = (2, 0, 0, 1)
T, S = (2, 0, 0), (4, 0, 0, 2)

HUGE = 10 ** 119  # has 120 digits


def nested(kind, inner):
    """A list or tuple within a list or tuple, thirty deep."""
    value = inner
    for _ in range(30):
        value = kind([value])
    return value


# What is no integer at all.
NO_INTEGERS = [None, True, False, "", "0", "1", "a", [], [0], (), (0,), (1,), nested(list, 0), nested(tuple, 0),
               (0,) * 500, [0] * 500, "u" * 1000, errors.InvalidRow("x"), errors.TooMany(3), Marked((0,), (0,)),
               Bench(((0,), 0, (0,)))]

# What is no row, ring row, tree, code, path, load, tuple of labels or of corners; () is told by each test itself.
NO_TUPLES = [None, True, False, 0, 1, 3, -1, HUGE, -HUGE, "", "0", "ur", "(0,)", "\n", [], [0], [0, 0, 0], [1, 0, 0],
             [[0]], [(0,)], nested(list, 0), nested(tuple, 0), (None,), ("0",), ("",), ((),), ((0,),), ([0],),
             (True,), (False,), (0, False), (True, 0), (0, True), (False, 0, 0), (0, 0, None), (0, "0", 0), (0, (0,)),
             (-1,), (0, -1), (HUGE,), (0, HUGE), (0, 0, -HUGE), (0,) * 500, tuple(range(500)), ("0",) * 500,
             [0] * 500, ((0,),) * 500, errors.InvalidRow("x"), errors.TooMany(3), (errors.TooMany(3),),
             Marked((0,), (0,)), (Marked((0,), (0,)),), (0, Bench(((0,), 0, (0,))))]


# For check_wrong: any value may stand there.
NO_ERROR = (None, NO_TUPLES)


def out_of(least, most):
    """All kinds of what is no integer from the least one to the most."""
    return NO_INTEGERS + [least - 1, most + 1, HUGE, -HUGE, least - 1000, most + 1000]


def raised(function, args):
    """The error that a call raises, or None; nothing handed in may be changed."""
    before = repr(args)
    try:
        function(*args)
        found = None
    except errors.ParkError as error:
        found = error
    assert before == repr(args), (function, args)
    return found


def check_wrong(test, cases):
    """For each (function, right arguments, [(error, wrong values)]) let each wrong value raise its error.

    An argument is wrong first by itself, then with all those behind it wrong as well: the first error counts.
    Where the error is None, there is to be none.
    """
    for function, right, wrongs in cases:
        test.assertEqual(len(right), len(wrongs), function)
        test.assertIsNone(raised(function, right), (function, right))
        for at, (error, values) in enumerate(wrongs):
            behind = [others[0] for _, others in wrongs[at + 1:]]
            for value in values:
                for rest in (list(right[at + 1:]), behind):
                    args = list(right[:at]) + [value] + rest
                    found = raised(function, args)
                    test.assertIs(type(None) if error is None else error, type(found), (function, args))
                    test.assertTrue(str(found), function)


def check_limits(test, cases):
    """For each (function, arguments at the limit, arguments beyond, limit) see that TooMany comes, and last."""
    for function, inside, beyond, limit in cases:
        test.assertIsNone(raised(function, inside), (function, inside))
        found = raised(function, beyond)
        test.assertIs(errors.TooMany, found.__class__, (function, beyond))
        test.assertEqual(limit, found.limit, function)


def spoil(value):
    """Change a returned list as much as can be, and the lists within it."""
    if isinstance(value, list):
        for item in value:
            spoil(item)
        value.reverse()
        value.append("spoilt")
        del value[:-1]


def check_new(test, cases):
    """For each (function, arguments) see that a list that is changed does not change the next answer."""
    for function, args in cases:
        first = function(*args)
        kept = copy.deepcopy(first)
        test.assertIsInstance(first, list, function)
        spoil(first)
        test.assertEqual(kept, function(*args), function)


def run_examples(test, text, modules):
    """Run the examples of the document, as they stand there, with all names of these modules."""
    names = {"P": P, "U": U, "L": L, "W": W, "T": T, "S": S}
    for module in modules.split():
        found = importlib.import_module("parkedrows." + module)
        names.update({name: getattr(found, name) for name in vars(found) if not name.startswith("_")})
    examples = doctest.DocTestParser().get_doctest(text, names, "examples", None, 0)
    test.assertTrue(examples.examples)
    report = []
    runner = doctest.DocTestRunner(verbose=False)
    runner.run(examples, out=report.append)
    test.assertEqual([], report, "".join(report))


def drive(row):
    """The tuple of the spots of all cars, driven one by one, or None if one of them is not parked."""
    spots = []
    for wish in row:
        spot = wish
        while spot in spots:
            spot += 1
        if spot >= len(row):
            return None
        spots.append(spot)
    return tuple(spots)


def rows_driven(cars):
    """The ascending list of all tuples of wishes by which all cars are parked."""
    return [row for row in itertools.product(range(cars), repeat=cars) if drive(row) is not None]


def few_rows():
    """All parked rows of one to four cars."""
    return [row for cars in (1, 2, 3, 4) for row in rows_driven(cars)]


def drive_round(row):
    """The tuple of the spots of all cars on a ring with one spot more than there are cars."""
    spots = []
    for wish in row:
        spot = wish
        while spot in spots:
            spot = 0 if spot == len(row) else spot + 1
        spots.append(spot)
    return tuple(spots)


def ring_rows(cars):
    """The ascending list of all ring rows."""
    return list(itertools.product(range(cars + 1), repeat=cars))


def ancestors(parents, corner):
    """The list of what lies between a corner and the root, or None if the parents go round."""
    way = []
    here = parents[corner - 1]
    while here != 0:
        if here == corner or here in way:
            return None
        way.append(here)
        here = parents[here - 1]
    return way


def trees_walked(corners):
    """The ascending list of all tuples of parents that lead to the root from everywhere."""
    return [parents for parents in itertools.product(range(corners + 1), repeat=corners)
            if all(ancestors(parents, corner) is not None for corner in range(1, corners + 1))]


def few_trees():
    """All trees of one to four corners."""
    return [tree for corners in (1, 2, 3, 4) for tree in trees_walked(corners)]


def paths_tried(levels):
    """The ascending list of all tuples of heights that are a path."""
    return [path for path in itertools.product(range(levels), repeat=levels)
            if path[0] == 0 and all(later - former <= 1 for former, later in zip(path, path[1:]))]


def few_paths(most):
    """All paths of one to so many levels."""
    return [path for levels in range(1, most + 1) for path in paths_tried(levels)]


def labelled_tried(path):
    """The ascending list of all labelled paths with a path."""
    words = itertools.permutations(range(len(path)))
    climbs = [level for level in range(1, len(path)) if path[level] == path[level - 1] + 1]
    return [(path, word) for word in words if all(word[level - 1] < word[level] for level in climbs)]


def spill_by_spill(load, choose):
    """What is left, and how often each corner has spilled; the corner to spill is chosen each time."""
    grains = list(load)
    spills = [0] * len(load)
    while max(grains) >= len(load):
        at = choose([at for at in range(len(load)) if grains[at] >= len(load)])
        spills[at] += 1
        for other in range(len(load)):
            grains[other] += -len(load) if other == at else 1
    return tuple(grains), tuple(spills)


def settled_loads(corners):
    """The ascending list of all settled loads."""
    return list(itertools.product(range(corners), repeat=corners))


def is_same_again(load):
    """Whether a settled load is the same again when each corner gets a grain more, and it is settled."""
    return spill_by_spill([grains + 1 for grains in load], max)[0] == tuple(load)


def loads_again(corners):
    """The ascending list of all loads that come again."""
    return [load for load in settled_loads(corners) if is_same_again(load)]


def tally(numbers):
    """The dict of how often each number, or tuple of numbers, comes."""
    found = {}
    for number in numbers:
        found[number] = found.get(number, 0) + 1
    return found


def ties_of(web, corner):
    """The list of all that are tied with a corner, or with the root."""
    return [other for other in range(web[0] + 1) if (other, corner) in web[1] or (corner, other) in web[1]]


def webs_tried(corners):
    """The list of all webs: of all lots of ties those that lead from the root to each corner."""
    ties = list(itertools.combinations(range(corners + 1), 2))
    webs = [(corners, lot) for many in range(len(ties) + 1) for lot in itertools.combinations(ties, many)]
    found = []
    for web in webs:
        met, line = {0}, [0]
        for here in line:
            line += [other for other in ties_of(web, here) if other not in met]
            met.update(line)
        if len(met) == corners + 1:
            found.append(web)
    return found


def few_webs():
    """All webs of one to three corners, and some of four."""
    return [web for corners in (1, 2, 3) for web in webs_tried(corners)] + webs_tried(4)[::20]


def web_spill_by_spill(web, load, choose):
    """What is left on a web, and how often each corner has spilled; the corner to spill is chosen each time."""
    grains, spills = list(load), [0] * web[0]
    near = [ties_of(web, corner) for corner in range(1, web[0] + 1)]
    high = [at for at in range(web[0]) if grains[at] >= len(near[at])]
    while high:
        at = choose(high)
        spills[at] += 1
        for other in near[at]:
            grains[at] -= 1
            if other:
                grains[other - 1] += 1
        high = [at for at in range(web[0]) if grains[at] >= len(near[at])]
    return tuple(grains), tuple(spills)


def web_loads_settled(web):
    """The ascending list of all loads that are settled on a web."""
    return list(itertools.product(*[range(len(ties_of(web, corner))) for corner in range(1, web[0] + 1)]))


def web_loads_again(web):
    """The ascending list of all settled loads by which all corners burn."""
    near = {corner: set(ties_of(web, corner)) for corner in range(1, web[0] + 1)}
    found = []
    for load in web_loads_settled(web):
        burnt, more = {0}, {0}
        while more:
            more = {corner for corner in near if corner not in burnt and load[corner - 1] >= len(near[corner] - burnt)}
            burnt |= more
        if len(burnt) == web[0] + 1:
            found.append(load)
    return found


def web_trees_walked(web):
    """The ascending list of all tuples of parents on a web that lead to the root from everywhere."""
    return [tree for tree in trees_walked(web[0])
            if all(tree[corner - 1] in ties_of(web, corner) for corner in range(1, web[0] + 1))]


def fields_tried(things):
    """The ascending list of all fields: of all orders and all lots of arcs those none of which lies in another."""
    found = []
    pairs = list(itertools.combinations(range(things), 2))
    for order in itertools.permutations(range(things)):
        arcs = [(first, last) for first, last in pairs if order[first] < order[last]]
        for many in range(len(arcs) + 1):
            for lot in itertools.combinations(arcs, many):
                if all(one[0] < other[0] and one[1] < other[1] for one, other in itertools.combinations(lot, 2)):
                    found.append((order, lot))
    return sorted(found)


def few_fields():
    """All fields of one to four things."""
    return [field for things in (1, 2, 3, 4) for field in fields_tried(things)]


def is_far(field, one, other):
    """Whether the lesser thing is ahead of the greater one, and their places lie within no arc."""
    order, arcs = field
    place, behind = order.index(one), order.index(other)
    return place < behind and not any(first <= place and behind <= last for first, last in arcs)


def planes_above(field):
    """The ascending list of all planes that a field is above."""
    order, found = field[0], []
    for one, other in itertools.combinations(range(len(order)), 2):
        if order.index(one) < order.index(other):
            found.append((one, other, 0))
            if is_far(field, one, other):
                found.append((one, other, 1))
    return found


def lots_tried(points):
    """The ascending list of all partings: of all lots those no two of which cross."""
    marks = [()]
    for _ in range(points):
        marks = [some + (mark,) for some in marks for mark in range(len(set(some)) + 1)]
    found = []
    for some in marks:
        cross = [True for a, b, c, d in itertools.combinations(some, 4) if a == c != b == d]
        if not cross:
            found.append(tuple(tuple(point for point in range(points) if some[point] == mark)
                               for mark in range(len(set(some)))))
    return sorted(found)


def turn_of(lots):
    """The tuple of the next greater point in its lot, for each point, or of the least one."""
    follow = {point: lot[(at + 1) % len(lot)] for lot in lots for at, point in enumerate(lot)}
    return tuple(follow[point] for point in sorted(follow))


def is_fine(lots, others):
    """Whether each lot is within a lot of the others."""
    return all(any(set(lot) <= set(other) for other in others) for lot in lots)


def chains_tried(points):
    """The list of all chains of partings of so many points."""
    partings = lots_tried(points)
    chains = [(tuple((point,) for point in range(points)),)]
    for many in range(points - 1, 0, -1):
        chains = [chain + (lots,) for chain in chains for lots in partings
                  if len(lots) == many and is_fine(chain[-1], lots)]
    return chains


def exchanges_done(exchanges):
    """The list of the tuples on the way, as the exchanges are done one after another."""
    items = list(range(len(exchanges) + 1))
    way = [tuple(items)]
    for a, b in exchanges:
        items[a], items[b] = items[b], items[a]
        way.append(tuple(items))
    return way


def exchanges_tried(cars):
    """The ascending list of all rows of exchanges: of all tuples of pairs those that lead to the long turn."""
    pairs = list(itertools.combinations(range(cars + 1), 2))
    long_turn = tuple(range(1, cars + 1)) + (0,)
    return [exchanges for exchanges in itertools.product(pairs, repeat=cars)
            if exchanges_done(exchanges)[-1] == long_turn]


def homes_tried(places, things):
    """The ascending list of all homes of so many things, all there."""
    return list(itertools.product(range(places), repeat=things))


def some_homes():
    """Pairs of few places and of homes for so many, some things not being there."""
    found = []
    for places in (1, 2, 3, 4, 5):
        for things in range(5):
            items = [None] + list(range(places))
            found += [(places, homes) for homes in itertools.product(items, repeat=things)
                      if things - homes.count(None) < places]
    return found[::3] + [(6, (2, 2, 0, 3)), (6, (5, 5, None, 5)), (7, (6, None, 6, 0, 6, 3)),
                         (12, (11, 3, None, 10, 3))]


def lay_by_turn(places, homes, turn):
    """The tuple of what lies in all places, and the dict of the steps of all things, laid one after another."""
    table, steps = [None] * places, {}
    for thing in turn:
        steps[thing] = 0
        while table[(homes[thing] + steps[thing]) % places] is not None:
            steps[thing] += 1
        table[(homes[thing] + steps[thing]) % places] = thing
    return tuple(table), steps


def present(homes):
    """The tuple of all things that are there."""
    return tuple(thing for thing, home in enumerate(homes) if home is not None)


def tables_by_turns(places, homes):
    """The ascending list of the tables that come of homes in all turns."""
    tables = {lay_by_turn(places, homes, turn)[0] for turn in itertools.permutations(present(homes))}
    return sorted(tables, key=lambda table: [-1 if item is None else item for item in table])


def hang_together(corners, ties):
    """Whether one comes from the root along ties to each corner."""
    met, line = {0}, [0]
    for here in line:
        for tie in ties:
            if here in tie and not set(tie) <= met:
                met.update(tie)
                line.append(sum(tie) - here)
    return len(met) == corners + 1


def meshes_tried(corners):
    """The ascending list of all meshes: of all lots of ties those by which all corners hang together."""
    ties = list(itertools.combinations(range(corners + 1), 2))
    return sorted(lot for many in range(len(ties) + 1) for lot in itertools.combinations(ties, many)
                  if hang_together(corners, lot))


def few_meshes():
    """All meshes of one to three corners, and some of four."""
    return [mesh for corners in (1, 2, 3) for mesh in meshes_tried(corners)] + meshes_tried(4)[::9]


def tree_ties(tree):
    """The ascending tuple of the ties of all corners of a tree with their parents."""
    return tuple(sorted(tuple(sorted((corner, parent))) for corner, parent in enumerate(tree, 1)))


def walk_line(mesh, word):
    """The pair of the tree and of the line, by the queue or the stack."""
    corners = max(high for _, high in mesh)
    line, parents, at = [0], {}, 0
    while at < len(line):
        here = line[at]
        joining = sorted(sum(tie) - here for tie in mesh if here in tie and sum(tie) - here not in line)
        parents.update((corner, here) for corner in joining)
        line[len(line) if word == "queue" else at + 1:len(line) if word == "queue" else at + 1] = joining
        at += 1
    return tuple(parents[corner] for corner in range(1, corners + 1)), tuple(line)


def walk_deep(mesh):
    """The pair of the tree and of the line that the walker makes."""
    corners, line, parents = max(high for _, high in mesh), [0], {}

    def walk(here):
        for other in range(corners, 0, -1):
            if tuple(sorted((here, other))) in mesh and other not in line:
                parents[other] = here
                line.append(other)
                walk(other)

    walk(0)
    return tuple(parents[corner] for corner in range(1, corners + 1)), tuple(line)


def take_rings_apart(mesh):
    """The tree that is left when the least tie that is no bridge is taken away, as long as there is one."""
    corners, left = max(high for _, high in mesh), list(mesh)
    while True:
        free = [tie for tie in left if hang_together(corners, [other for other in left if other != tie])]
        if not free:
            return walk_line(left, "queue")[0]
        left.remove(min(free))


def search_done(mesh, search):
    """The tree that a search finds, done step by step."""
    if search == "rings":
        return take_rings_apart(mesh)
    return walk_deep(mesh)[0] if search == "deep" else walk_line(mesh, search)[0]


def outer_tried(tree, search):
    """The ascending list of the ties with each of which the search finds the tree, too."""
    own = tree_ties(tree)
    others = [tie for tie in itertools.combinations(range(len(tree) + 1), 2) if tie not in own]
    return [tie for tie in others if search_done(tuple(sorted(own + (tie,))), search) == tree]


def judge(row, clues):
    """Whether a row keeps clues, its cars being parked."""
    spots = drive(row)
    told = {"wish": row, "spot": spots, "moved": tuple(spot - wish for wish, spot in zip(row, spots)),
            "all": (sum(spots) - sum(row),)}
    return all(clue[-2] <= told[clue[0]][clue[1] if len(clue) == 4 else 0] <= clue[-1] for clue in clues)


def drawn_clue(draw, cars):
    """A clue of so many cars, drawn."""
    word = draw.choice(("wish", "spot", "moved", "all"))
    most = min(66, cars * (cars - 1) // 2 + 1) if word == "all" else cars - 1
    limits = tuple(sorted((draw.randint(0, most), draw.randint(0, most))))
    return (word,) + limits if word == "all" else (word, draw.randrange(cars)) + limits


def some_clues(draw, cars, many):
    """A list of so many tuples of none to six clues of so many cars, drawn, and of one without clues."""
    return [()] + [tuple(drawn_clue(draw, cars) for _ in range(draw.randint(1, 6))) for _ in range(many)]


def line_tree(row, word):
    """The tree of a row by the queue or the stack, corner by corner in the line."""
    line = [0]
    for at in range(len(row)):
        joining = [car + 1 for car, wish in enumerate(row) if wish == at]
        line[len(line) if word == "queue" else at + 1:len(line) if word == "queue" else at + 1] = joining
    return tuple(line[wish] for wish in row)


def row_of_line_tree(tree, word):
    """The row whose tree by the queue or the stack this is, walked from the root on."""
    line, at = [0], 0
    while at < len(line):
        joining = [corner for corner, parent in enumerate(tree, 1) if parent == line[at]]
        line[len(line) if word == "queue" else at + 1:len(line) if word == "queue" else at + 1] = joining
        at += 1
    return tuple(line.index(parent) for parent in tree)


def grained(row, corner, times):
    """The row of the load of a row with so many grains more on a corner, or fewer, one by one."""
    cars = len(row)
    load = tuple(cars - 1 - wish for wish in row)
    # So many grains as there are cars, and one more, lead back: all but one of them take one away.
    for _ in range(times if times >= 0 else -times * cars):
        load = spill_by_spill([grains + (at == corner - 1) for at, grains in enumerate(load)], max)[0]
    return tuple(cars - 1 - grains for grains in load)


def rows_added(row, other):
    """The row of the sum of the loads of two rows."""
    most = len(row) - 1
    load = spill_by_spill([2 * most - one - more for one, more in zip(row, other)], max)[0]
    return tuple(most - grains for grains in load)


def put(items, at, item):
    """A tuple with another item at an index."""
    return tuple(item if index == at else other for index, other in enumerate(items))


def cut(items, at):
    """A tuple without the item at an index."""
    return tuple(item for index, item in enumerate(items) if index != at)


def step_row(row, word, told):
    """The row behind a step that changes nothing but wishes, or None if it can't be done."""
    cars = len(row)
    if word == "exchange":
        one, other = told
        return put(put(row, one, row[other]), other, row[one]) if max(told) < cars else None
    if word in ("lower", "raise"):
        changed = put(row, told[0], row[told[0]] + (1 if word == "raise" else -1)) if told[0] < cars else (-1,)
        return changed if min(changed) >= 0 and drive(changed) is not None else None
    if word == "swing":
        corner, other = told
        if max(told) > cars:
            return None
        tree = line_tree(row, "queue")
        return row_of_line_tree(put(tree, corner - 1, other), "queue") if not other or corner not in \
            ancestors(tree, other) else None
    if word == "grain":
        return grained(row, *told) if told[0] <= cars else None
    if word == "sum":
        return rows_added(row, told[0]) if len(told[0]) == cars else None
    one, other = ("stack", "queue") if word == "over" else ("queue", "stack")
    return row_of_line_tree(line_tree(row, one), other)


def step_done(state, step):
    """The state behind a step, done as it is told, or None if it can't be done."""
    (row, spot, marks), (word, *told) = state, step
    cars = len(row)
    if word == "come":
        wish, mark = told
        return (row + (wish,), spot, marks + (mark,)) if cars < 12 and wish <= cars else None
    if word == "leave":
        car, = told
        rest = cut(row, car)
        if cars == 1 or car >= cars or spot == cars - 1 or drive(rest) is None:
            return None
        return (rest, spot, cut(marks, car))
    if word == "watch":
        return (row, told[0], marks) if told[0] < cars else None
    if word == "mark":
        return (row, spot, put(marks, *told)) if told[0] < cars else None
    changed = step_row(row, word, told)
    return None if changed is None else (changed, spot, marks)


def drawn_row(draw, cars):
    """A parked row of so many cars, drawn: a ring row, turned till all cars are parked."""
    row = [draw.randint(0, cars) for _ in range(cars)]
    while drive(row) is None or max(row) == cars:
        row = [(wish + 1) % (cars + 1) for wish in row]
    return tuple(row)


def drawn_state(draw, cars):
    """A state of so many cars, drawn."""
    return (drawn_row(draw, cars), draw.randrange(cars), tuple(draw.randint(0, 99) for _ in range(cars)))


def drawn_step(draw, cars):
    """A step, drawn for a state of so many cars; perhaps it can't be done."""
    car, other = draw.randint(0, min(cars, 11)), draw.randint(0, min(cars, 11))
    word = draw.choice("exchange lower raise come leave swing grain sum over back watch mark".split())
    told = {"exchange": (car, (car + 1) % 12 if other == car else other), "lower": (car,), "raise": (car,),
            "come": (other, draw.randint(0, 99)), "leave": (car,),
            "swing": (car + 1, 0 if other == car + 1 else other), "grain": (car + 1, draw.randint(-9, 9)),
            "sum": (drawn_row(draw, draw.choice((cars, cars, cars, max(1, cars - 1)))),), "over": (), "back": (),
            "watch": (car,), "mark": (car, draw.randint(0, 99))}
    return (word,) + told[word]
