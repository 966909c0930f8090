"""Tests of parkedrows.lifetexts: [45], [46], [93]."""

import random
import re
import unittest

from parkedrows.errors import InvalidScript, InvalidState, InvalidText
from parkedrows.lifesteps import is_step
from parkedrows.lifetexts import read_script, read_state, script_text, state_text
from tests.helper import HUGE, NO_INTEGERS, check_wrong, drawn_step, drive, run_examples
from tests.test_lifesteps import ALONE, C, GOOD_STEPS, NO_SCRIPTS, NO_STATES, TWELVE, V, some_states

EXAMPLES = """
    >>> V, C = ((1, 0, 0), 2, (5, 7, 9)), (("lower", 0), ("come", 1, 4), ("grain", 2, -1), ("sum", (0, 0)))
    >>> [state_text(V).split("\\n"), script_text(C).split("\\n"), read_state(state_text(V)) == V, read_script(script_text(C)) == C, read_script("")]
    [['1 0 0', '2', '5 7 9'], ['lower 0', 'come 1 4', 'grain 2 -1', 'sum 0 0'], True, True, ()]
"""

NUMBER = "(?:0|-?[1-9][0-9]{0,900})"
STATE = re.compile(f"({NUMBER}(?: {NUMBER})*)\n({NUMBER})\n({NUMBER}(?: {NUMBER})*)")
STEP = re.compile(f"([a-z]+)((?: {NUMBER})*)")

NO_TEXTS = [value for value in NO_INTEGERS if value != ""] + [0, 3, HUGE, b"over", ("over",), ["1 0 0", "2", "5 7 9"]]
NO_STATE_TEXTS = NO_TEXTS + [
    "", "\n", "\n\n", "\n\n\n", " \n \n ", "1 0 0\n2\n5 7 9\n", "\n1 0 0\n2\n5 7 9", "1 0 0\r\n2\r\n5 7 9", "1 0 0\n2",
    "1 0 0\r2\r5 7 9", "1 0 0 2 5 7 9", "1  0 0\n2\n5 7 9", " 1 0 0\n2\n5 7 9", "1 0 0 \n2\n5 7 9", "1 0 0\n2 \n5 7 9",
    "1 0 0\n 2\n5 7 9", "1 0 0\n2\n5 7 9 ", "1\t0 0\n2\n5 7 9", "+1 0 0\n2\n5 7 9", "01 0 0\n2\n5 7 9",
    "-0 0 0\n2\n5 7 9",
    "1 0 0\n02\n5 7 9", "1 0 0\n+2\n5 7 9", "1 0 0\n2\n05 7 9", "1 0 0\n2\n5 7 +9", "1 0 0\n3\n5 7 9",
    "1 0 0\n-1\n5 7 9",
    "1 0 0\n2\n5 7", "1 0 0\n2\n5 7 9 1", "1 0 0\n2\n5 7 100", "1 0 0\n2\n5 7 -9", "1 1 1\n2\n5 7 9",
    "1 0 0\n2 2\n5 7 9",
    "1,0,0\n2\n5,7,9", "(1, 0, 0)\n2\n(5, 7, 9)", "1 0 a\n2\n5 7 9", "1 0 0\nb\n5 7 9", "1 0 0\n2\n5 7 x",
    "1 0 0\n\n5 7 9",
    "\n2\n5 7 9", "1 0 0\n2\n", "1_0 0\n1\n1 1", "1 0 0\n2\n5 7 " + "9" * 980, "0 " * 300, "\u0661 0\n0\n1 1", "\u00b2",
    "0\n0\n\u00b2", "1.0 0\n0\n1 1", "1 0 0\x0b2\n5 7 9", "1 0 0\n2\n5 7 9\n\n", "--1 0\n0\n1 1", "- 0\n0\n1 1",
    "-\n0\n1"]
NO_SCRIPT_TEXTS = NO_TEXTS + [
    "\n", " ", "over\n", "\nover", "over\n\nback", "over\r\nback", "over\rback", "over ", " over", "Over", "over 0",
    "lower", "lower 0 0", "lower  0", "lower +0", "lower 00", "lower -0", "lower 12", "lower -1", "lower a", "lower\t0",
    "lower0", "0 lower", "grain 2 +1", "grain 2 -01", "grain 2 1001", "grain 2 - 1", "grain 2 --1", "grain 1 -",
    "sum", "sum ", "sum 1", "sum 0  0", "sum (0, 0)", "sum 0 0 ", "sum 0,0", "swing 1 1", "exchange 0 0", "come 0 100",
    "mark 0", "step 0", "lower 0;over", "\n".join(["over"] * 31), "over\nover\n", "exchange 0 " + "1" * 900,
    "lower \u0660",
    "sum" + " 0" * 13, "watch 1.0", "watch 1_0", "over" * 200]


def state_of_text(value):
    """The state whose text a string is, or None."""
    match = STATE.fullmatch(value)
    if match is None:
        return None
    row, (spot,), marks = [tuple(map(int, part.split())) for part in match.groups()]
    right = len(row) <= 12 and min(row) >= 0 and max(row) < len(row) and drive(row) is not None
    right = right and 0 <= spot < len(row) == len(marks) and all(0 <= mark <= 99 for mark in marks)
    return (row, spot, marks) if right else None


def script_of_text(value):
    """The script whose text a string is, or None."""
    script = []
    for line in value.split("\n") if value else []:
        match = STEP.fullmatch(line)
        if match is None:
            return None
        numbers = tuple(map(int, match.group(2).split()))
        script.append(("sum", numbers) if match.group(1) == "sum" else (match.group(1),) + numbers)
    return tuple(script) if len(script) <= 30 and all(map(is_step, script)) else None


def bent(text):
    """All texts that come of a text by taking a sign away, or by putting one in, or instead."""
    signs = "0123459 -+\n\r\ta_."
    found = [text[:at] + text[at + 1:] for at in range(len(text))]
    found += [text[:at] + sign + text[at + more:] for at in range(len(text) + 1) for sign in signs for more in (0, 1)]
    return found


class TestLifeTexts(unittest.TestCase):
    def test_examples(self):
        run_examples(self, EXAMPLES, "lifetexts")

    def test_states_there_and_back(self):
        for row, spot, marks in some_states() + [ALONE, TWELVE]:
            text = " ".join(map(str, row)) + "\n" + str(spot) + "\n" + " ".join(map(str, marks))
            self.assertEqual(text, state_text((row, spot, marks)))
            self.assertEqual((row, spot, marks), read_state(text))

    def test_scripts_there_and_back(self):
        draw = random.Random(93)
        scripts = [(), C, tuple(GOOD_STEPS), (("over",),) * 30, (("sum", (0,) * 12),) * 30, (("back",),)]
        scripts += [tuple(drawn_step(draw, 5) for _ in range(draw.randint(1, 30))) for _ in range(60)]
        for script in scripts:
            lines = [" ".join([word] + [str(part) for part in (told[0] if word == "sum" else told)])
                     for word, *told in script]
            self.assertEqual("\n".join(lines), script_text(script))
            self.assertEqual(script, read_script("\n".join(lines)))

    def check_bent(self, read, expected, text):
        for value in bent(text):
            told = expected(value)
            if told is None:
                self.assertRaises(InvalidText, read, value)
            else:
                self.assertEqual(told, read(value), value)

    def test_bent_states(self):
        for state in (V, ALONE, ((0,) * 11 + (11,), 10, tuple(range(9, 21)))):
            self.check_bent(read_state, state_of_text, state_text(state))

    def test_bent_scripts(self):
        for script in ((("over",),), C + (("sum", (1, 0, 0)), ("back",)), (("grain", 12, -1000),), (("lower", 1),) * 30,
                       (("swing", 1, 0), ("come", 11, 99), ("sum", (0,)))):
            self.check_bent(read_script, script_of_text, script_text(script))

    def test_no_steps_and_one_car(self):
        self.assertEqual(["", (), "0\n0\n0", ALONE], [script_text(()), read_script(""), state_text(ALONE),
                                                      read_state("0\n0\n0")])

    def test_wrong_arguments(self):
        check_wrong(self, [(state_text, [V], [(InvalidState, NO_STATES)]),
                           (script_text, [C], [(InvalidScript, NO_SCRIPTS)]),
                           (read_state, ["1 0 0\n2\n5 7 9"], [(InvalidText, NO_STATE_TEXTS)]),
                           (read_script, ["over"], [(InvalidText, NO_SCRIPT_TEXTS)])])
