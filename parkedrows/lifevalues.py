"""Parked rows with marks, as values."""

from parkedrows.burning import turned
from parkedrows.checks import check_corner, check_most, check_number, has_size, is_integer, is_within
from parkedrows.errors import InvalidCar, InvalidMarks, InvalidText, Stuck, Unlike
from parkedrows.grains import with_grains
from parkedrows.lifesteps import are_marks, exchanged, item_left
from parkedrows.lifetexts import lines_read, numbers_text
from parkedrows.loadgroup import MOST_TIMES, row_again, row_times, rows_summed
from parkedrows.rows import cars_at, check_row, displacement, is_parked, spots_of


def check_marked_alike(one, other):
    """Let any value pass that is a marked row with as many cars as a marked row."""
    if not isinstance(other, Marked) or len(one.row) != len(other.row):
        raise Unlike("the other one must be a marked row with as many cars")


def check_car(car, cars):
    """Let one of so many cars pass."""
    if not is_within(car, 0, cars - 1):
        raise InvalidCar("there is no such car")


class Marked:
    """A parked row with a mark for each car."""

    MOST = 12

    def __init__(self, row, marks):
        check_row(row)
        if not are_marks(marks, len(row)):
            raise InvalidMarks("the marks must be a tuple of an integer from 0 to 99 for each car")
        self._row = row
        self._marks = marks

    @classmethod
    def read(cls, value):
        """The marked row whose text a value is."""
        row, marks = lines_read(value, 2)
        if not is_parked(row) or not are_marks(marks, len(row)):
            raise InvalidText("the text must be that of a marked row")
        return cls(row, marks)

    @property
    def row(self):
        """The parked row."""
        return self._row

    @property
    def marks(self):
        """The tuple of the marks of all cars."""
        return self._marks

    @property
    def spots(self):
        """The tuple of the spots of all cars."""
        return spots_of(self._row)

    @property
    def load(self):
        """The load of the row."""
        return turned(self._row)

    def __add__(self, other):
        check_marked_alike(self, other)
        return Marked(rows_summed(self._row, other._row), self._marks)

    def __iadd__(self, other):
        check_marked_alike(self, other)
        self._row = rows_summed(self._row, other._row)
        return self

    def __mul__(self, other):
        check_number(other, -MOST_TIMES, MOST_TIMES)
        return Marked(row_times(self._row, other), self._marks)

    def __invert__(self):
        return Marked(row_times(self._row, -1), self._marks)

    def __xor__(self, other):
        if not has_size(other, 2, 2):
            raise InvalidCar("the cars must be a pair of two cars")
        one, further = other
        check_car(one, len(self._row))
        check_car(further, len(self._row))
        if one == further:
            raise InvalidCar("the cars must be unlike")
        return Marked(exchanged(self._row, one, further), self._marks)

    def __sub__(self, other):
        check_car(other, len(self._row))
        rest = item_left(self._row, other)
        if not is_parked(rest):
            raise Stuck("the row without the car must be a parked row")
        return Marked(rest, item_left(self._marks, other))

    def __lshift__(self, other):
        check_number(other, 0, len(self._row))
        check_most(len(self._row) + 1, Marked.MOST)
        return Marked(self._row + (other,), self._marks + (0,))

    def __le__(self, other):
        check_marked_alike(self, other)
        return all([wish <= more for wish, more in zip(self._row, other._row)])

    def __call__(self, corner):
        check_corner(corner, 1, len(self._row))
        return Marked(row_again(with_grains(turned(self._row), corner, 1)), self._marks)

    def __getitem__(self, at):
        check_number(at, 0, len(self._row) - 1)
        car = cars_at(self._row)[at]
        return (car, self._marks[car])

    def __contains__(self, x):
        return is_integer(x) and x in self._marks

    def __iter__(self):
        raise TypeError("a marked row is not iterated over")

    def __len__(self):
        return len(self._row)

    def __bool__(self):
        return bool(displacement(self._row) > 0)

    def __str__(self):
        return "\n".join([numbers_text(self._row), numbers_text(self._marks)])

    def __eq__(self, other):
        return isinstance(other, Marked) and self._row == other._row and self._marks == other._marks
