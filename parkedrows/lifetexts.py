"""States and scripts as text, there and back."""

from parkedrows.errors import InvalidScript, InvalidText
from parkedrows.lifesteps import check_state, is_script, is_state

# No integer of a state or a step has more digits than 1000.
MOST_DIGITS = 4


def numbers_text(numbers):
    """Integers as text, with one blank between two."""
    return " ".join([str(number) for number in numbers])


def number_read(word):
    """The integer of few digits that Python writes so, or None if there is none."""
    digits = word[1:] if word.startswith("-") else word
    if not 1 <= len(digits) <= MOST_DIGITS or not all([sign in "0123456789" for sign in digits]):
        return None
    return int(word) if str(int(word)) == word else None


def numbers_read(words):
    """The tuple of the integers that words are, None for each word that is none."""
    return tuple([number_read(word) for word in words])


def lines_read(value, many):
    """The list of the tuples of integers that so many lines of any value tell, None for what is none."""
    if not isinstance(value, str) or len(value.split("\n")) != many:
        raise InvalidText("the text must have its lines, and no others")
    return [numbers_read(line.split(" ")) for line in value.split("\n")]


def step_text(step):
    """A step as text."""
    if step[0] == "sum":
        return "sum " + numbers_text(step[1])
    return " ".join([step[0]] + [str(number) for number in step[1:]])


def step_read(line):
    """The step that a line tells, or what is no step."""
    words = line.split(" ")
    numbers = numbers_read(words[1:])
    return ("sum", numbers) if words[0] == "sum" else (words[0],) + numbers


def state_text(state):
    """A state as text."""
    check_state(state)
    row, spot, marks = state
    return "\n".join([numbers_text(row), str(spot), numbers_text(marks)])


def script_text(script):
    """A script as text."""
    if not is_script(script):
        raise InvalidScript("the script must be a tuple of 0 to 30 steps")
    return "\n".join([step_text(step) for step in script])


def read_state(value):
    """The state whose text a value is."""
    row, spots, marks = lines_read(value, 3)
    state = (row, spots[0], marks)
    if len(spots) != 1 or not is_state(state):
        raise InvalidText("the text must be that of a state")
    return state


def read_script(value):
    """The script whose text a value is."""
    if not isinstance(value, str):
        raise InvalidText("the text must be a string")
    script = tuple([step_read(line) for line in value.split("\n")]) if len(value) > 0 else ()
    if not is_script(script):
        raise InvalidText("the text must be that of a script")
    return script
