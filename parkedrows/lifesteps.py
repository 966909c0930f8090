"""States of parked rows with a spot and marks, and the steps that lead from one to another."""

from parkedrows.burning import turned
from parkedrows.checks import MOST_CARS, all_within, has_size, is_within
from parkedrows.errors import InvalidScript, InvalidState, InvalidStep, Stuck, Unlike
from parkedrows.grains import with_grains
from parkedrows.loadgroup import row_again, row_times, rows_summed
from parkedrows.rows import cars_at, is_parked
from parkedrows.treerows import row_by_queue, row_by_stack, tree_by_queue, tree_by_stack
from parkedrows.trees import swung, way_up

MOST_MARK = 99
MOST_STEPS = 30
MOST_TRIED = 60

# For each word but "sum", the least and the greatest integer that can stand in each place behind it.
KINDS = {"exchange": ((0, 11), (0, 11)), "lower": ((0, 11),), "raise": ((0, 11),), "come": ((0, 11), (0, 99)),
         "leave": ((0, 11),), "swing": ((1, 12), (0, 12)), "grain": ((1, 12), (-1000, 1000)), "over": (), "back": (),
         "watch": ((0, 11),), "mark": ((0, 11), (0, 99))}

# Words of steps that are led back by a step with the same integers.
OPPOSITES = {"exchange": "exchange", "lower": "raise", "raise": "lower", "over": "back", "back": "over"}


def are_marks(value, cars):
    """Whether any value is the marks of so many cars."""
    return has_size(value, cars, cars) and all_within(value, 0, MOST_MARK)


def is_state(value):
    """Whether any value is a state."""
    if not has_size(value, 3, 3):
        return False
    row, spot, marks = value
    return is_parked(row) and is_within(spot, 0, len(row) - 1) and are_marks(marks, len(row))


def is_step(value):
    """Whether any value is a step."""
    if not has_size(value, 1, 3) or not isinstance(value[0], str):
        return False
    word = value[0]
    if word == "sum":
        return len(value) == 2 and is_parked(value[1])
    if word not in KINDS or len(value) != len(KINDS[word]) + 1:
        return False
    if not all([is_within(number, least, most) for number, (least, most) in zip(value[1:], KINDS[word])]):
        return False
    return word not in ("exchange", "swing") or value[1] != value[2]


def is_script(value):
    """Whether any value is a script."""
    return has_size(value, 0, MOST_STEPS) and all([is_step(step) for step in value])


def check_state(state):
    """Let a state pass."""
    if not is_state(state):
        raise InvalidState("the state must be a parked row, a spot and marks")


def check_step(step):
    """Let a step pass."""
    if not is_step(step):
        raise InvalidStep("the step must be a word, and what belongs to it")


def seen_car(state):
    """The pair of the car that parks in the spot of a state, and of its mark."""
    check_state(state)
    row, spot, marks = state
    car = cars_at(row)[spot]
    return (car, marks[car])


def item_put(items, at, item):
    """A tuple with another item at an index."""
    return items[:at] + (item,) + items[at + 1:]


def item_left(items, at):
    """A tuple without the item at an index."""
    return items[:at] + items[at + 1:]


def exchanged(row, one, other):
    """The row in which two cars exchange their wishes, or None if one of them is not there."""
    if one >= len(row) or other >= len(row):
        return None
    return item_put(item_put(row, one, row[other]), other, row[one])


def wish_changed(row, car, more):
    """The row in which the wish of a car is greater by so much, or None if it can't be."""
    if car >= len(row):
        return None
    changed = item_put(row, car, row[car] + more)
    return changed if is_parked(changed) else None


def row_swung(row, corner, other):
    """The row whose tree by the queue is that of a row, swung, or None if this can't be."""
    tree = tree_by_queue(row)
    if corner > len(row) or other > len(row) or (other > 0 and corner in way_up(tree, other)):
        return None
    return row_by_queue(swung(tree, corner, other))


def row_behind(row, step):
    """The row behind a step that changes wishes, but not how many there are; None if it can't be done."""
    word = step[0]
    if word == "exchange":
        return exchanged(row, step[1], step[2])
    if word == "lower":
        return wish_changed(row, step[1], -1)
    if word == "raise":
        return wish_changed(row, step[1], 1)
    if word == "swing":
        return row_swung(row, step[1], step[2])
    if word == "grain":
        return row_again(with_grains(turned(row), step[1], step[2])) if step[1] <= len(row) else None
    if word == "sum":
        return rows_summed(row, step[1]) if len(step[1]) == len(row) else None
    if word == "over":
        return row_by_queue(tree_by_stack(row))
    return row_by_stack(tree_by_queue(row))


def with_car(state, wish, mark):
    """The state in which a car more has come, or None if it can't come."""
    row, spot, marks = state
    if len(row) == MOST_CARS or wish > len(row):
        return None
    return (row + (wish,), spot, marks + (mark,))


def without_car(state, car):
    """The state in which a car has left, or None if it can't leave."""
    row, spot, marks = state
    if car >= len(row) or spot == len(row) - 1:
        return None
    rest = item_left(row, car)
    return (rest, spot, item_left(marks, car)) if is_parked(rest) else None


def state_behind(state, step):
    """The state behind a step, or None if it can't be done."""
    row, spot, marks = state
    word = step[0]
    if word == "come":
        return with_car(state, step[1], step[2])
    if word == "leave":
        return without_car(state, step[1])
    if word == "watch":
        return (row, step[1], marks) if step[1] < len(row) else None
    if word == "mark":
        return (row, spot, item_put(marks, step[1], step[2])) if step[1] < len(row) else None
    changed = row_behind(row, step)
    return None if changed is None else (changed, spot, marks)


def stepped(state, step):
    """The state behind a step."""
    check_state(state)
    check_step(step)
    behind = state_behind(state, step)
    if behind is None:
        raise Stuck("the step can't be done in this state")
    return behind


def all_stepped(state, script):
    """The list of a state and of those behind each step of a script."""
    check_state(state)
    if not is_script(script):
        raise InvalidScript("the script must be a tuple of 0 to 30 steps")
    states = [state]
    for step in script:
        states.append(stepped(states[-1], step))
    return states


def step_back(state, step):
    """The step that leads back to a state from the one behind a step; None for one by which a car leaves."""
    stepped(state, step)
    row, spot, marks = state
    word = step[0]
    if word == "leave":
        return None
    if word in OPPOSITES:
        return (OPPOSITES[word],) + step[1:]
    if word == "come":
        return ("leave", len(row))
    if word == "swing":
        return ("swing", step[1], tree_by_queue(row)[step[1] - 1])
    if word == "grain":
        return ("grain", step[1], -step[2])
    if word == "sum":
        return ("sum", row_times(step[1], -1))
    return ("watch", spot) if word == "watch" else ("mark", step[1], marks[step[1]])


def script_to(one, other):
    """A script that leads from a state to another one with as many cars."""
    check_state(one)
    check_state(other)
    row, spot, marks = one
    aim, aim_spot, aim_marks = other
    if len(row) != len(aim):
        raise Unlike("the states must have as many cars")
    script = [("mark", car, aim_marks[car]) for car in range(len(row)) if marks[car] != aim_marks[car]]
    if spot != aim_spot:
        script.append(("watch", aim_spot))
    if row != aim:
        # Loads that come again are a group, so there is one whose sum with the one's is the other one's.
        script.append(("sum", rows_summed(aim, row_times(row, -1))))
    return tuple(script)


def steps_that_can(state, steps):
    """The ascending list of the indices of all those of 0 to 60 steps that can be done in a state."""
    check_state(state)
    if not has_size(steps, 0, MOST_TRIED) or not all([is_step(step) for step in steps]):
        raise InvalidStep("the steps must be a tuple of 0 to 60 steps")
    return [index for index in range(len(steps)) if state_behind(state, steps[index]) is not None]
