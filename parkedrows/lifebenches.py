"""Benches: states on which steps are done, taken back, and done again."""

from parkedrows.checks import check_most, check_number, is_integer
from parkedrows.errors import NothingToRedo, NothingToUndo
from parkedrows.lifesteps import all_stepped, check_state, seen_car, stepped
from parkedrows.rows import cars_at, lucky_cars, spots_of


class Bench:
    """A state, and the calls that have led to it."""

    MOST = 60

    def __init__(self, state):
        check_state(state)
        self._state = state
        # Each call is a triple: its steps, the state ahead of it, and the one behind it.
        self._done = ()
        self._undone = ()

    @property
    def state(self):
        """The state."""
        return self._state

    @property
    def row(self):
        """The row of the state."""
        return self._state[0]

    @property
    def spot(self):
        """The spot of the state."""
        return self._state[1]

    @property
    def marks(self):
        """The marks of the state."""
        return self._state[2]

    @property
    def seen(self):
        """The pair of the car that parks in the spot of the state, and of its mark."""
        return seen_car(self._state)

    @property
    def spots(self):
        """The tuple of the spots of all cars."""
        return spots_of(self._state[0])

    @property
    def log(self):
        """The tuple of all steps of the calls that can be taken back."""
        return tuple([step for steps, _, _ in self._done for step in steps])

    def _keep(self, steps, behind):
        check_most(len(self._done) + 1, Bench.MOST)
        self._done = self._done + ((steps, self._state, behind),)
        self._undone = ()
        self._state = behind

    def do(self, step):
        """Do a step, and tell whether the state is another one then."""
        ahead = self._state
        self._keep((step,), stepped(ahead, step))
        return self._state != ahead

    def __iadd__(self, other):
        self._keep(other, all_stepped(self._state, other)[-1])
        return self

    def undo(self):
        """Take back the last call that can be."""
        if len(self._done) == 0:
            raise NothingToUndo("no call is left that can be taken back")
        call = self._done[-1]
        self._done = self._done[:-1]
        self._undone = self._undone + (call,)
        self._state = call[1]

    def redo(self):
        """Do the last call again that was taken back."""
        if len(self._undone) == 0:
            raise NothingToRedo("no call is left that can be done again")
        call = self._undone[-1]
        self._undone = self._undone[:-1]
        self._done = self._done + (call,)
        self._state = call[2]

    def attempt(self, action):
        """What a function returns for the bench; if it ends with an error, all is as it was before."""
        state, done, undone = self._state, self._done, self._undone
        failed = True
        try:
            answer = action(self)
            failed = None
        finally:
            if failed is not None:
                self._state, self._done, self._undone = state, done, undone
        return answer

    def lines(self):
        """For each spot, its car, a blank and the mark, and a star behind them if it is the spot of the state."""
        row, spot, marks = self._state
        cars = cars_at(row)
        for place in range(len(row)):
            star = "*" if place == spot else ""
            yield f"{cars[place]} {marks[cars[place]]}{star}"

    def __getitem__(self, at):
        row, _, marks = self._state
        check_number(at, 0, len(row) - 1)
        car = cars_at(row)[at]
        return (car, marks[car])

    def __contains__(self, x):
        return is_integer(x) and x in self._state[2]

    def __iter__(self):
        raise TypeError("a bench is not iterated over")

    def __len__(self):
        return len(self._done)

    def __bool__(self):
        car, _ = seen_car(self._state)
        return car in lucky_cars(self._state[0])

    def __eq__(self, other):
        return isinstance(other, Bench) and self._state == other._state
