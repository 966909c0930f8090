"""Tests of parkedrows.lifebenches: [95]."""

import random
import unittest

from parkedrows.errors import (InvalidNumber, InvalidScript, InvalidState, InvalidStep, NothingToRedo, NothingToUndo,
                               ParkError, Stuck, TooMany)
from parkedrows.lifebenches import Bench
from parkedrows.lifevalues import Marked
from tests.helper import (HUGE, NO_INTEGERS, NO_TUPLES, P, drawn_state, drawn_step, drive, raised, run_examples,
                          step_done)
from tests.test_lifesteps import ALONE, C, NO_SCRIPTS, NO_STATES, NO_STEPS, TWELVE, V, some_states

EXAMPLES = """
    >>> V, C = ((1, 0, 0), 2, (5, 7, 9)), (("lower", 0), ("come", 1, 4), ("grain", 2, 1), ("watch", 0))
    >>> b = Bench(V)
    >>> [b.seen, b.spots, bool(b), b.do(C[0]), b.do(("watch", 2)), b.row, b[1], list(b.lines()), b.undo(), b.undo(), b.redo(), len(b), b.log, 9 in b]
    [(2, 9), (1, 0, 2), False, True, False, (0, 0, 0), (1, 7), ['0 5', '1 7', '2 9*'], None, None, None, 1, (('lower', 0),), True]
"""

STAY = ("watch", 2)  # changes nothing in V


class Broken(Exception):
    """An error that is none of the package's."""


def add(bench, script):
    """Do a script as one call."""
    bench += script


class Kept:
    """A bench kept by the test: the state, what can be taken back, and what can be done again."""

    def __init__(self, state):
        self.state, self.past, self.future = state, [], []

    def call(self, steps):
        """Whether all steps can be done and kept; then they are."""
        state = self.state
        for step in steps:
            state = state and step_done(state, step)
        if state is None or len(self.past) == 60:
            return Stuck if state is None else TooMany
        self.past.append((steps, self.state))
        self.state, self.future = state, []
        return None

    def undo(self):
        """Take back the last call."""
        if not self.past:
            return NothingToUndo
        steps, state = self.past.pop()
        self.future.append((steps, self.state))
        self.state = state
        return None

    def redo(self):
        """Do the last call again that was taken back."""
        if not self.future:
            return NothingToRedo
        steps, state = self.future.pop()
        self.past.append((steps, self.state))
        self.state = state
        return None

    def log(self):
        """The tuple of all steps of the calls that can be taken back."""
        return tuple(step for steps, _ in self.past for step in steps)


def shown(bench):
    """All that a bench shows, and what is left when all is done again, and then taken back."""
    found = [bench.state, bench.log, len(bench)]
    undone = 0
    while raised(bench.redo, ()) is None:
        undone += 1
    found += [undone, bench.state, bench.log]
    for _ in range(undone):
        bench.undo()
    return found


class TestBenches(unittest.TestCase):
    def test_examples(self):
        run_examples(self, EXAMPLES, "lifebenches")

    def check(self, bench, kept):
        row, spot, marks = kept.state
        spots = drive(row)
        cars = [spots.index(place) for place in range(len(row))]
        self.assertEqual([kept.state, row, spot, marks], [bench.state, bench.row, bench.spot, bench.marks])
        self.assertEqual([spots, (cars[spot], marks[cars[spot]]), kept.log()], [bench.spots, bench.seen, bench.log])
        self.assertEqual([(car, marks[car]) for car in cars], [bench[place] for place in range(len(row))])
        self.assertIs(row[cars[spot]] == spot, bool(bench))
        self.assertEqual(len(kept.past), len(bench))
        self.assertEqual([f"{car} {marks[car]}" + ("*" if place == spot else "") for place, car in enumerate(cars)],
                         list(bench.lines()))
        for mark in (0, 5, 50, 99, marks[-1]):
            self.assertIs(mark in marks, mark in bench)

    def drive_along(self, draw, bench, kept, many):
        for _ in range(many):
            cars, choice = len(kept.state[0]), draw.randrange(10)
            before = kept.state
            if choice < 5:
                step = drawn_step(draw, cars)
                error = kept.call((step,))
                if error is None:
                    self.assertIs(before != kept.state, bench.do(step))
                else:
                    self.assertIs(error, type(raised(bench.do, (step,))))
            elif choice < 6:
                script = tuple(drawn_step(draw, cars) for _ in range(draw.randint(0, 3)))
                self.assertIs(kept.call(script) or type(None), type(raised(add, (bench, script))))
            elif choice < 8:
                self.assertIs(kept.undo() or type(None), type(raised(bench.undo, ())))
            else:
                self.assertIs(kept.redo() or type(None), type(raised(bench.redo, ())))
            self.check(bench, kept)

    def test_beside_a_kept_state(self):
        draw = random.Random(95)
        for state in [V, ALONE, TWELVE] + [drawn_state(draw, cars) for cars in (2, 3, 4, 6, 9)]:
            self.drive_along(draw, Bench(state), Kept(state), 120)

    def test_states(self):
        for state in some_states():
            self.check(Bench(state), Kept(state))
        self.assertEqual([60, 60], [Bench.MOST, Bench(V).MOST])
        for name in ("state", "row", "spot", "marks", "seen", "spots", "log"):
            self.assertRaises(AttributeError, setattr, Bench(V), name, ())

    def test_sixty_calls(self):
        for fill in (lambda bench: bench.do(STAY), lambda bench: add(bench, ()),
                     lambda bench: add(bench, C[3:] + (STAY,))):
            bench = Bench(V)
            for _ in range(60):
                fill(bench)
            before = shown(bench)
            for call, value in ((bench.do, STAY), (bench.do, C[0]), (bench.__iadd__, ()), (bench.__iadd__, C)):
                found = raised(call, (value,))
                self.assertEqual([TooMany, 60], [type(found), found.limit])
            self.assertIs(Stuck, type(raised(bench.do, (("watch", 3),))))
            self.assertIs(InvalidStep, type(raised(bench.do, (("watch", 12),))))
            self.assertIs(Stuck, type(raised(bench.__iadd__, ((("watch", 3),),))))
            self.assertIs(InvalidScript, type(raised(bench.__iadd__, (STAY,))))
            self.assertEqual(before, shown(bench))
            for _ in range(60):
                self.assertIsNone(bench.undo())
            self.assertEqual([V, 0, ()], [bench.state, len(bench), bench.log])
            self.assertRaises(NothingToUndo, bench.undo)
            for _ in range(60):
                self.assertIsNone(bench.redo())
            self.assertRaises(NothingToRedo, bench.redo)
            self.assertEqual(before, shown(bench))

    def test_errors_change_nothing(self):
        bench = Bench(V)
        bench.do(C[0])
        bench += C[1:3]
        bench.do(STAY)
        bench.undo()
        bench.undo()
        before = shown(bench)
        for call, value, error in ((bench.do, ("lower", 1), Stuck), (bench.do, ("lower", 12), InvalidStep),
                                   (bench.__iadd__, (("raise", 0), ("over",), ("lower", 11)), Stuck),
                                   (bench.__iadd__, [STAY], InvalidScript), (bench.__getitem__, 3, InvalidNumber)):
            self.assertIs(error, type(raised(call, (value,))))
            self.assertEqual(before, shown(bench))
        # What raised an error is no call that ends what can be done again.
        self.assertEqual(2, before[3])
        bench.redo()
        self.assertEqual(3, len(bench.log))

    def test_scripts_are_one_call(self):
        bench = same = Bench(V)
        bench += C
        self.assertIs(same, bench)
        self.assertEqual([1, C, ((1, 0, 1, 2), 0, (5, 7, 9, 4))], [len(bench), bench.log, bench.state])
        bench += ()
        self.assertEqual([2, C], [len(bench), bench.log])
        bench.undo()
        bench.undo()
        self.assertEqual(V, bench.state)
        bench.redo()
        self.assertEqual([1, C], [len(bench), bench.log])
        bench.do(("over",))
        self.assertRaises(NothingToRedo, bench.redo)

    def test_attempts_that_end_well(self):
        bench = Bench(V)
        self.assertEqual([5, bench, None, (2, 9)],
                         [bench.attempt(lambda given: 5), bench.attempt(lambda given: given),
                          bench.attempt(lambda given: None), bench.attempt(lambda given: given.seen)])
        self.assertIs(bench, bench.attempt(lambda given: given))
        self.assertIs(True, bench.attempt(lambda given: given.do(C[0])))
        self.assertEqual([1, (C[0],)], [len(bench), bench.log])

        def caught(given):
            given.do(STAY)
            self.assertRaises(Stuck, given.do, ("lower", 0))
            return "caught"

        self.assertEqual("caught", bench.attempt(caught))
        self.assertEqual(2, len(bench))

    def test_attempts_that_end_with_an_error(self):
        bench = Bench(V)
        bench.do(C[0])
        bench += C[1:]
        bench.do(("over",))
        bench.undo()
        before = shown(bench)

        def stuck(given):
            given.do(("back",))
            given.undo()
            given.undo()
            given += (STAY,)
            given.do(("lower", 11))

        def broken(given):
            given.undo()
            given.undo()
            given.redo()
            given.undo()
            raise Broken("no")

        def within(given):
            given.do(STAY)
            self.assertRaises(Broken, given.attempt, broken)
            self.assertEqual(3, len(given))
            given.attempt(stuck)

        for action, error in ((stuck, Stuck), (broken, Broken), (within, Stuck),
                              (lambda given: given.do(0), InvalidStep),
                              (lambda given: given[99], InvalidNumber), (lambda given: 1 // 0, ZeroDivisionError),
                              (lambda given: list(given), TypeError), (lambda: 0, TypeError)):
            with self.assertRaises(error):
                bench.attempt(action)
            self.assertEqual(before, shown(bench))

        def ended(given):
            given.do(("back",))
            raise KeyboardInterrupt

        self.assertRaises(KeyboardInterrupt, bench.attempt, ended)
        self.assertEqual(before, shown(bench))

    def test_lines_show_what_there_is_at_first(self):
        bench = Bench(V)
        early = bench.lines()
        bench.do(C[0])
        self.assertEqual(["0 5", "1 7", "2 9*"], list(early))
        late = bench.lines()
        self.assertEqual("0 5", next(late))
        bench += (("mark", 1, 88), ("watch", 0), ("come", 0, 3))
        self.assertEqual(["1 7", "2 9*"], list(late))
        self.assertEqual(["0 5*", "1 88", "2 9", "3 3"], list(bench.lines()))
        self.assertEqual([], list(late))

    def test_equality(self):
        bench, other = Bench(V), Bench(V)
        bench.do(STAY)
        self.assertTrue(bench == other)
        self.assertFalse(bench != other)
        other.do(C[0])
        self.assertFalse(bench == other)
        self.assertTrue(bench != other)
        for value in NO_TUPLES + [V, P, Marked(P, (5, 7, 9)), str(bench), Bench(ALONE), Bench((P, 1, (5, 7, 9)))]:
            self.assertIs(False, bench == value, value)
            self.assertIs(True, bench != value, value)

    def test_marks_that_are_there(self):
        bench = Bench(((0, 1), 0, (0, 1)))
        for value in NO_INTEGERS + NO_TUPLES + [2, 99, HUGE, bench, int]:
            self.assertIs(value in (0, 1) and type(value) is int, value in bench, value)
        self.assertTrue(0 in bench and 1 in bench)

    def test_no_iteration(self):
        for call in (iter, list, tuple, sorted, lambda value: [item for item in value], lambda value: (*value,)):
            self.assertRaises(TypeError, call, Bench(V))

    def test_wrong_arguments(self):
        for value in NO_STATES:
            self.assertRaises(InvalidState, Bench, value)
        bench = Bench(V)
        before = shown(bench)
        for value in NO_STEPS:
            self.assertIs(InvalidStep, type(raised(bench.do, (value,))), value)
        for value in NO_SCRIPTS:
            self.assertIs(InvalidScript, type(raised(bench.__iadd__, (value,))), value)
        for value in NO_INTEGERS + [-1, 3, HUGE, -HUGE, slice(0, 1)]:
            self.assertIs(InvalidNumber, type(raised(bench.__getitem__, (value,))), value)
        self.assertEqual(before, shown(bench))
        self.assertRaises(NothingToUndo, bench.undo)
        self.assertRaises(NothingToRedo, bench.redo)
        self.assertTrue(issubclass(NothingToRedo, ParkError))
