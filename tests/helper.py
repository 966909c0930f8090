"""What the tests share: wrong values, tables of calls, and worlds worked out step by step."""

import copy
import doctest
import importlib
import itertools

from parkedrows import errors

P, U, L = (1, 0, 0), (0, 1, 2), (0, 0, 0)
W = (2, 0, 0, 1)
T, S = (2, 0, 0), (4, 0, 0, 2)

HUGE = 10 ** 119  # has 120 digits


def nested(kind, inner):
    """A list or tuple within a list or tuple, thirty deep."""
    value = inner
    for _ in range(30):
        value = kind([value])
    return value


# What is no integer at all.
NO_INTEGERS = [None, True, False, "", "0", "1", "a", [], [0], (), (0,), (1,), nested(list, 0), nested(tuple, 0),
               (0,) * 500, [0] * 500, "u" * 1000, errors.InvalidRow("x"), errors.TooMany(3)]

# What is no row, ring row, tree, code, path, load, tuple of labels or of corners; () is told by each test itself.
NO_TUPLES = [None, True, False, 0, 1, 3, -1, HUGE, -HUGE, "", "0", "ur", "(0,)", "\n", [], [0], [0, 0, 0], [1, 0, 0],
             [[0]], [(0,)], nested(list, 0), nested(tuple, 0), (None,), ("0",), ("",), ((),), ((0,),), ([0],),
             (True,), (False,), (0, False), (True, 0), (0, True), (False, 0, 0), (0, 0, None), (0, "0", 0), (0, (0,)),
             (-1,), (0, -1), (HUGE,), (0, HUGE), (0, 0, -HUGE), (0,) * 500, tuple(range(500)), ("0",) * 500,
             [0] * 500, ((0,),) * 500, errors.InvalidRow("x"), errors.TooMany(3), (errors.TooMany(3),)]


def out_of(least, most):
    """All kinds of what is no integer from the least one to the most."""
    return NO_INTEGERS + [least - 1, most + 1, HUGE, -HUGE, least - 1000, most + 1000]


def raised(function, args):
    """The error that a call raises, or None; nothing handed in may be changed."""
    before = repr(args)
    try:
        function(*args)
        found = None
    except errors.ParkError as error:
        found = error
    assert before == repr(args), (function, args)
    return found


def check_wrong(test, cases):
    """For each (function, right arguments, [(error, wrong values)]) let each wrong value raise its error.

    An argument is wrong first by itself, then with all those behind it wrong as well: the first error counts.
    """
    for function, right, wrongs in cases:
        test.assertEqual(len(right), len(wrongs), function)
        test.assertIsNone(raised(function, right), (function, right))
        for at, (error, values) in enumerate(wrongs):
            behind = [others[0] for _, others in wrongs[at + 1:]]
            for value in values:
                for rest in (list(right[at + 1:]), behind):
                    args = list(right[:at]) + [value] + rest
                    found = raised(function, args)
                    test.assertIs(error, found.__class__, (function, args))
                    test.assertTrue(str(found), function)


def check_limits(test, cases):
    """For each (function, arguments at the limit, arguments beyond, limit) see that TooMany comes, and last."""
    for function, inside, beyond, limit in cases:
        test.assertIsNone(raised(function, inside), (function, inside))
        found = raised(function, beyond)
        test.assertIs(errors.TooMany, found.__class__, (function, beyond))
        test.assertEqual(limit, found.limit, function)


def spoil(value):
    """Change a returned list as much as can be, and the lists within it."""
    if isinstance(value, list):
        for item in value:
            spoil(item)
        value.reverse()
        value.append("spoilt")
        del value[:-1]


def check_new(test, cases):
    """For each (function, arguments) see that a list that is changed does not change the next answer."""
    for function, args in cases:
        first = function(*args)
        kept = copy.deepcopy(first)
        test.assertIsInstance(first, list, function)
        spoil(first)
        test.assertEqual(kept, function(*args), function)


def run_examples(test, text, modules):
    """Run the examples of the document, as they stand there, with all names of these modules."""
    names = {"P": P, "U": U, "L": L, "W": W, "T": T, "S": S}
    for module in modules.split():
        found = importlib.import_module("parkedrows." + module)
        names.update({name: getattr(found, name) for name in vars(found) if not name.startswith("_")})
    examples = doctest.DocTestParser().get_doctest(text, names, "examples", None, 0)
    test.assertTrue(examples.examples)
    report = []
    runner = doctest.DocTestRunner(verbose=False)
    runner.run(examples, out=report.append)
    test.assertEqual([], report, "".join(report))


def drive(row):
    """The tuple of the spots of all cars, driven one by one, or None if one of them is not parked."""
    spots = []
    for wish in row:
        spot = wish
        while spot in spots:
            spot += 1
        if spot >= len(row):
            return None
        spots.append(spot)
    return tuple(spots)


def rows_driven(cars):
    """The ascending list of all tuples of wishes by which all cars are parked."""
    return [row for row in itertools.product(range(cars), repeat=cars) if drive(row) is not None]


def few_rows():
    """All parked rows of one to four cars."""
    return [row for cars in (1, 2, 3, 4) for row in rows_driven(cars)]


def drive_round(row):
    """The tuple of the spots of all cars on a ring with one spot more than there are cars."""
    spots = []
    for wish in row:
        spot = wish
        while spot in spots:
            spot = 0 if spot == len(row) else spot + 1
        spots.append(spot)
    return tuple(spots)


def ring_rows(cars):
    """The ascending list of all ring rows."""
    return list(itertools.product(range(cars + 1), repeat=cars))


def ancestors(parents, corner):
    """The list of what lies between a corner and the root, or None if the parents go round."""
    way = []
    here = parents[corner - 1]
    while here != 0:
        if here == corner or here in way:
            return None
        way.append(here)
        here = parents[here - 1]
    return way


def trees_walked(corners):
    """The ascending list of all tuples of parents that lead to the root from everywhere."""
    return [parents for parents in itertools.product(range(corners + 1), repeat=corners)
            if all(ancestors(parents, corner) is not None for corner in range(1, corners + 1))]


def few_trees():
    """All trees of one to four corners."""
    return [tree for corners in (1, 2, 3, 4) for tree in trees_walked(corners)]


def paths_tried(levels):
    """The ascending list of all tuples of heights that are a path."""
    return [path for path in itertools.product(range(levels), repeat=levels)
            if path[0] == 0 and all(later - former <= 1 for former, later in zip(path, path[1:]))]


def few_paths(most):
    """All paths of one to so many levels."""
    return [path for levels in range(1, most + 1) for path in paths_tried(levels)]


def labelled_tried(path):
    """The ascending list of all labelled paths with a path."""
    words = itertools.permutations(range(len(path)))
    climbs = [level for level in range(1, len(path)) if path[level] == path[level - 1] + 1]
    return [(path, word) for word in words if all(word[level - 1] < word[level] for level in climbs)]


def spill_by_spill(load, choose):
    """What is left, and how often each corner has spilled; the corner to spill is chosen each time."""
    grains = list(load)
    spills = [0] * len(load)
    while max(grains) >= len(load):
        at = choose([at for at in range(len(load)) if grains[at] >= len(load)])
        spills[at] += 1
        for other in range(len(load)):
            grains[other] += -len(load) if other == at else 1
    return tuple(grains), tuple(spills)


def settled_loads(corners):
    """The ascending list of all settled loads."""
    return list(itertools.product(range(corners), repeat=corners))


def is_same_again(load):
    """Whether a settled load is the same again when each corner gets a grain more, and it is settled."""
    return spill_by_spill([grains + 1 for grains in load], max)[0] == tuple(load)


def loads_again(corners):
    """The ascending list of all loads that come again."""
    return [load for load in settled_loads(corners) if is_same_again(load)]


def tally(numbers):
    """The dict of how often each number, or tuple of numbers, comes."""
    found = {}
    for number in numbers:
        found[number] = found.get(number, 0) + 1
    return found
