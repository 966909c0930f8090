"""Tests of parkedrows.lifesteps: [45], [46], [91], [92]."""

import itertools
import random
import unittest

from parkedrows.errors import InvalidScript, InvalidState, InvalidStep, Stuck, Unlike
from parkedrows.lifesteps import (all_stepped, is_script, is_state, is_step, script_to, seen_car, step_back, stepped,
                                  steps_that_can)
from tests.helper import (HUGE, NO_TUPLES, L, P, U, W, check_new, check_wrong, drawn_row, drawn_state, drawn_step,
                          drive, grained, nested, rows_added, rows_driven, run_examples, step_done)

EXAMPLES = """
    >>> V, C = ((1, 0, 0), 2, (5, 7, 9)), (("lower", 0), ("come", 1, 4), ("grain", 2, 1), ("watch", 0))
    >>> [is_state(V), is_state((P, 3, (5, 7, 9))), is_step(C[1]), is_step(("come", 1)), is_script(C), seen_car(V), len(all_stepped(V, C)), all_stepped(V, C)[3], seen_car(all_stepped(V, C)[4])]
    [True, False, True, False, True, (2, 9), 5, ((1, 0, 1, 2), 2, (5, 7, 9, 4)), (1, 7)]
    >>> [stepped(V, ("swing", 3, 1))[0], stepped(V, ("sum", P))[0], stepped((W, 0, (0,) * 4), ("over",))[0], step_back(V, C[0]), step_back(V, C[1]), step_back(V, ("sum", P)), step_back(V, ("swing", 3, 1)), step_back(V, ("grain", 2, 5)), step_back((P, 0, (5, 7, 9)), ("leave", 0))]
    [(1, 0, 2), (2, 0, 0), (3, 0, 0, 1), ('raise', 0), ('leave', 3), ('sum', (0, 1, 1)), ('swing', 3, 0), ('grain', 2, -5), None]
    >>> V = ((1, 0, 0), 2, (5, 7, 9))
    >>> [all_stepped(V, script_to(V, (L, 0, (5, 7, 8))))[-1], script_to(V, V) == () or all_stepped(V, script_to(V, V))[-1] == V, steps_that_can(V, (("lower", 1), ("raise", 0), ("leave", 0), ("watch", 2), ("swing", 2, 1)))]
    [((0, 0, 0), 0, (5, 7, 8)), True, [1, 3]]
"""

V, C = ((1, 0, 0), 2, (5, 7, 9)), (("lower", 0), ("come", 1, 4), ("grain", 2, 1), ("watch", 0))
ALONE = ((0,), 0, (0,))
TWELVE = ((0,) * 12, 11, tuple(range(88, 100)))

NO_STATES = NO_TUPLES + [(), V[:1], V[:2], V + (0,), list(V), ([1, 0, 0], 2, (5, 7, 9)), (P, 2, [5, 7, 9]),
                         (P, 3, (5, 7, 9)), (P, -1, (5, 7, 9)), (P, True, (5, 7, 9)), (P, None, (5, 7, 9)),
                         (P, "2", (5, 7, 9)), (P, (2,), (5, 7, 9)), (P, HUGE, (5, 7, 9)), (P, 2, (5, 7)),
                         (P, 2, (5, 7, 9, 1)), (P, 2, (5, 7, 100)), (P, 2, (-1, 7, 9)), (P, 2, (5, True, 9)),
                         (P, 2, (5, 7, None)), (P, 2, (5, 7, "9")), (P, 2, (5, 7, (9,))), (P, 2, (5, 7, HUGE)),
                         (P, 2, ()), (P, 2, None), (P, 2, 579), ((1, 1, 1), 2, (5, 7, 9)), ((True, 0, 0), 2, (5, 7, 9)),
                         ((), 0, ()), ((0,) * 13, 0, (0,) * 13), (2, P, (5, 7, 9)), (P, (5, 7, 9), 2), (V,),
                         (nested(tuple, 0), 0, (5,)), (P, 2, (0,) * 500), ((0,), 1, (0,)), ((0,), 0, (0, 0))]
NO_STEPS = NO_TUPLES + [
    (), ("",), ("step",), ("Lower", 0), ("lower ", 0), ("lower",), ("lower", 0, 0), ("lower", 12), ("lower", -1),
    ("lower", True), ("lower", None), ("lower", "0"), ("lower", (0,)), ["lower", 0], ("raise",), ("raise", 12),
    ("raise", False), ("raise", 0, 1), ("exchange", 0), ("exchange", 0, 0), ("exchange", 3, 3), ("exchange", 0, 12),
    ("exchange", -1, 0), ("exchange", 0, 1, 2), ("exchange", True, 0), ("exchange", 0, True), ("exchange", (0, 1)),
    ("come", 0), ("come", 12, 0), ("come", -1, 0), ("come", 0, 100), ("come", 0, -1), ("come", 0, 0, 0),
    ("come", True, 0), ("come", 0, False), ("come", 0, None), ("leave",), ("leave", 12), ("leave", 0, 0),
    ("leave", True), ("swing", 0, 1), ("swing", 1, 1), ("swing", 12, 12), ("swing", 13, 0), ("swing", 1, 13),
    ("swing", 1, -1), ("swing", 1), ("swing", 1, 0, 0), ("swing", True, 0), ("swing", 2, False), ("grain", 0, 1),
    ("grain", 13, 1), ("grain", 1, 1001), ("grain", 1, -1001), ("grain", 1), ("grain", 1, 1, 1), ("grain", 1, True),
    ("grain", True, 1), ("grain", 1, "1"), ("grain", 1, HUGE), ("grain", HUGE, 1), ("sum",), ("sum", 0), ("sum", ()),
    ("sum", (1,)), ("sum", (1, 1, 1)), ("sum", [0, 0]), ("sum", 0, 0), ("sum", (0, 0), 0), ("sum", (True, 0)),
    ("sum", (0,) * 13), ("sum", None), ("sum", (0, (0,))), ("over", 0), ("over", ()), ("back", 0), ("back", None),
    ("watch",), ("watch", 12), ("watch", -1), ("watch", 0, 0), ("watch", False), ("mark", 0), ("mark", 12, 0),
    ("mark", 0, 100), ("mark", 0, -1), ("mark", 0, 0, 0), ("mark", True, 0), ("mark", 0, True), (None, 0), (0, 0),
    (("lower",), 0), (("lower", 0),), ("lower", nested(tuple, 0)), "lower", ["over"], ("lower",) * 500, (True,),
    (["lower"], 0), ("lower", [0]), ("exchange", 12, 0), ("exchange", 0, -1), ("raise", -1), ("leave", -1),
    ("mark", -1, 0), ("mark", HUGE, 0), ("watch", HUGE), ("watch", "0"), ("come", 0, HUGE), ("swing", -1, 0)]
NO_SCRIPTS = [value for value in NO_STEPS if value not in ((), (("lower", 0),))] + [
    ("lower", 0), (("lower", 0), ("over", 0)), [("over",)], (("over",),) * 31, (("over",),) * 500, ("over",),
    (["over"],), ((("over",),),), (("over",), None), list(C)]
GOOD_STEPS = [("exchange", 0, 11), ("exchange", 11, 0), ("lower", 0), ("lower", 11), ("raise", 11), ("come", 0, 0),
              ("come", 11, 99), ("leave", 0), ("leave", 11), ("swing", 1, 0), ("swing", 12, 11), ("swing", 1, 12),
              ("grain", 1, 0), ("grain", 12, 1000), ("grain", 1, -1000), ("sum", (0,)), ("sum", P), ("sum", (0,) * 12),
              ("over",), ("back",), ("watch", 0), ("watch", 11), ("mark", 0, 0), ("mark", 11, 99)]


def some_states():
    """All states of one to three cars with a few marks, and some drawn ones of more cars."""
    draw = random.Random(46)
    found = [(row, spot, tuple(range(7, 7 + cars))) for cars in (1, 2, 3) for row in rows_driven(cars)
             for spot in range(cars)]
    return found + [drawn_state(draw, cars) for cars in (4, 5, 6, 9, 11, 12, 12) for _ in range(6)]


def some_steps():
    """Steps of all words, with most of the integers that can be told apart for few cars."""
    few = range(4)
    found = [("over",), ("back",)] + [(word, car) for word in ("lower", "raise", "leave", "watch") for car in few]
    found += [("exchange", one, other) for one, other in itertools.permutations(few, 2)]
    found += [("swing", one, other) for one in range(1, 5) for other in range(5) if one != other]
    found += [("come", wish, 50 + wish) for wish in range(5)] + [("mark", car, 90 + car) for car in few]
    found += [("grain", corner, times) for corner in range(1, 5) for times in (-3, -1, 0, 1, 2, 7)]
    return found + [("sum", row) for row in rows_driven(1) + rows_driven(2) + rows_driven(3)[::3]]


class TestLifeSteps(unittest.TestCase):
    def test_examples(self):
        run_examples(self, EXAMPLES, "lifesteps")

    def check(self, state, step):
        behind = step_done(state, step)
        self.assertEqual([0] if behind is not None else [], steps_that_can(state, (step,)), (state, step))
        if behind is None:
            for function in (stepped, step_back):
                self.assertRaises(Stuck, function, state, step)
            self.assertRaises(Stuck, all_stepped, state, (("mark", 0, 1), step))
            return
        self.assertEqual(behind, stepped(state, step), (state, step))
        back = step_back(state, step)
        if step[0] == "leave":
            self.assertIsNone(back)
        else:
            self.assertTrue(is_step(back))
            self.assertEqual(state, step_done(behind, back), (state, step))

    def test_each_step(self):
        draw = random.Random(91)
        for state in some_states():
            cars = len(state[0])
            for step in some_steps() if cars < 4 else [drawn_step(draw, cars) for _ in range(40)]:
                self.check(state, step)

    def test_words_of_steps_back(self):
        row, spot, marks = W, 1, (1, 2, 3, 4)
        told = {("exchange", 0, 3): ("exchange", 0, 3), ("lower", 0): ("raise", 0), ("raise", 1): ("lower", 1),
                ("come", 4, 9): ("leave", 4), ("swing", 1, 0): ("swing", 1, 3), ("grain", 4, 1000): ("grain", 4, -1000),
                ("grain", 1, 0): ("grain", 1, 0), ("over",): ("back",), ("back",): ("over",),
                ("watch", 3): ("watch", 1),
                ("watch", 1): ("watch", 1), ("mark", 2, 99): ("mark", 2, 3), ("leave", 0): None}
        for step, back in told.items():
            self.assertEqual(back, step_back((row, spot, marks), step), step)
        for other in rows_driven(4)[::7]:
            word, opposite = step_back((row, spot, marks), ("sum", other))
            self.assertEqual(["sum", W], [word, rows_added(rows_added(W, other), opposite)])

    def test_what_cannot_be_done(self):
        for state, step in ((V, ("lower", 1)), (V, ("raise", 3)), ((U, 0, (1, 2, 3)), ("raise", 2)),
                            (V, ("come", 4, 0)),
                            ((U, 0, (1, 2, 3)), ("raise", 1)), (TWELVE, ("come", 0, 0)), (ALONE, ("leave", 0)),
                            (V, ("leave", 0)), ((U, 0, (1, 2, 3)), ("leave", 0)), (V, ("swing", 2, 1)),
                            (V, ("swing", 4, 0)), (V, ("swing", 1, 4)), (V, ("grain", 4, 0)), (V, ("sum", (0, 0))),
                            (V, ("watch", 3)), (V, ("mark", 3, 0)), (V, ("exchange", 0, 3)), (V, ("exchange", 3, 0)),
                            (ALONE, ("exchange", 0, 1)), (V, ("leave", 3)), (V, ("lower", 3)),
                            ((U, 1, (1, 2, 3)), ("leave", 1))):
            self.assertIsNone(step_done(state, step))
            self.check(state, step)
        self.assertEqual(((0, 0), 1, (7, 9)), stepped(((0, 2, 0), 1, (7, 8, 9)), ("leave", 1)))

    def test_many_grains(self):
        for times in (-1000, -999, 999, 1000):
            for state, corner in ((V, 2), (ALONE, 1), (TWELVE, 7)):
                row, spot, marks = state
                rest = times % (len(row) + 1)
                self.assertEqual((grained(row, corner, rest), spot, marks), stepped(state, ("grain", corner, times)))
        self.assertEqual(grained(P, 2, 40), stepped(V, ("grain", 2, 40))[0])

    def test_twelve_cars(self):
        row, spot, marks = TWELVE
        self.assertEqual((row[:11] + (11,), spot, marks), step_done(((0,) * 11 + (10,), spot, marks), ("raise", 11)))
        for step in GOOD_STEPS:
            self.check(TWELVE, step)
            self.check((tuple(range(12)), 0, marks), step)
            self.check((tuple(range(11, -1, -1)), 5, marks), step)

    def test_seen_cars(self):
        for row, spot, marks in some_states():
            car = drive(row).index(spot)
            self.assertEqual((car, marks[car]), seen_car((row, spot, marks)))

    def test_scripts(self):
        draw = random.Random(92)
        for state in some_states()[::3]:
            states, script = [state], []
            for _ in range(30):
                step = drawn_step(draw, len(states[-1][0]))
                behind = step_done(states[-1], step)
                if behind is not None:
                    states.append(behind)
                    script.append(step)
            self.assertEqual(states, all_stepped(state, tuple(script)))
        self.assertEqual([V], all_stepped(V, ()))
        self.assertEqual(31, len(all_stepped(V, (("over",),) * 30)))
        self.assertEqual([ALONE, ALONE], all_stepped(ALONE, (("back",),)))

    def test_the_first_error(self):
        self.assertRaises(Stuck, all_stepped, V, (("over",), ("lower", 11), ("watch", 0)))
        self.assertRaises(InvalidScript, all_stepped, V, (("lower", 11), ("lower", 12)))

    def test_ways(self):
        draw = random.Random(93)
        pairs = list(itertools.product([(row, spot, (1, 2)) for row in rows_driven(2) for spot in (0, 1)], repeat=2))
        pairs += [(drawn_state(draw, cars), drawn_state(draw, cars)) for cars in range(1, 13) for _ in range(4)]
        pairs += [(TWELVE, (tuple(range(11, -1, -1)), 0, (0,) * 12)), (ALONE, ((0,), 0, (99,))), (V, V)]
        for one, other in pairs:
            script = script_to(one, other)
            self.assertTrue(is_script(script))
            for step in script:
                one = step_done(one, step)
            self.assertEqual(other, one)

    def test_which_steps_can(self):
        draw = random.Random(94)
        for state in some_states()[::4]:
            steps = tuple(drawn_step(draw, len(state[0])) for _ in range(60))
            self.assertEqual([index for index, step in enumerate(steps) if step_done(state, step) is not None],
                             steps_that_can(state, steps))
        self.assertEqual([[], list(range(60))], [steps_that_can(V, ()), steps_that_can(V, (("over",),) * 60)])

    def test_any_value(self):
        for value in NO_STATES:
            self.assertIs(False, is_state(value), value)
        for value in NO_STEPS:
            self.assertIs(False, is_step(value), value)
        for value in NO_SCRIPTS:
            self.assertIs(False, is_script(value), value)
        for value in GOOD_STEPS:
            self.assertIs(True, is_step(value), value)
        for value in [(), C, tuple(GOOD_STEPS), (("over",),) * 30]:
            self.assertIs(True, is_script(value), value)
        for value in [V, ALONE, TWELVE, (P, 0, (0, 99, 0))] + some_states()[::9]:
            self.assertIs(True, is_state(value), value)

    def test_drawn_rows_are_parked(self):
        draw = random.Random(95)
        for cars in range(1, 13):
            self.assertIsNotNone(drive(drawn_row(draw, cars)))

    def test_wrong_arguments(self):
        state, step, script = (InvalidState, NO_STATES), (InvalidStep, NO_STEPS), (InvalidScript, NO_SCRIPTS)
        steps = [value for value in NO_SCRIPTS if value not in ((("over",),) * 31, (("over",),) * 500)]
        steps = (InvalidStep, steps + [(("over",),) * 61, (("over",),) * 500, (("over",), ("over", 0))])
        other = (InvalidState, NO_STATES)
        check_wrong(self, [(seen_car, [V], [state]), (stepped, [V, C[0]], [state, step]),
                           (step_back, [V, C[0]], [state, step]), (all_stepped, [V, C], [state, script]),
                           (script_to, [V, V], [state, other]), (steps_that_can, [V, C], [state, steps])])
        stuck = (Stuck, [("lower", 1), ("watch", 3), ("leave", 0)])
        check_wrong(self, [(stepped, [V, C[0]], [state, stuck]), (step_back, [V, C[0]], [state, stuck]),
                           (all_stepped, [V, C], [state, (Stuck, [(value,) for value in stuck[1]])]),
                           (script_to, [V, V], [state, (Unlike, [ALONE, TWELVE, (W, 0, (0,) * 4)])])])

    def test_new_lists(self):
        check_new(self, [(all_stepped, [V, C]), (all_stepped, [V, ()]), (steps_that_can, [V, C])])
