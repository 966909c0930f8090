"""Row papers: questions on wishes and spots by which rows that keep clues are told."""

from parkedrows.checks import check_most, has_size, is_integer, is_within
from parkedrows.cluecounts import count_kept, kept_rows
from parkedrows.clues import check_cars_and_clues
from parkedrows.rows import is_parked, spots_of

MOST_CARS = 6
MOST_ROWS = 16
WORDS = ("wish", "spot")


def rows_for(cars, clues):
    """The ascending list of the rows that keep clues, at most 16 of at most 6 cars, each with its spots behind it."""
    check_cars_and_clues(cars, clues)
    check_most(cars, MOST_CARS)
    many = sum(count_kept(cars, clues))
    check_most(many, MOST_ROWS)
    return [row + spots_of(row) for row in kept_rows(cars, clues, list(range(many)))]


def answers_to(rows, word, car):
    """The list of the pairs of an answer and of the rows that give it, the lesser answers first."""
    cars = len(rows[0]) // 2
    at = WORDS.index(word) * cars + car
    told = [[row for row in rows if row[at] == answer] for answer in range(cars)]
    return [(answer, told[answer]) for answer in range(cars) if len(told[answer]) > 0]


def can_tell(rows, length, known):
    """Whether a paper of at most this length tells rows; what was found out stands in known."""
    if len(rows) < 2 or length == 0:
        return len(rows) < 2
    key = (tuple(rows), length)
    if key not in known:
        known[key] = first_question(rows, length, known) is not None
    return known[key]


def first_question(rows, length, known):
    """What a paper of at most this length can ask first, from 1 on, to tell two rows or more; None if there is none."""
    for car in range(len(rows[0]) // 2):
        for word in WORDS:
            parts = answers_to(rows, word, car)
            # A question to which all rows give the same answer is of no use.
            if len(parts) > 1 and all([can_tell(part, length - 1, known) for _, part in parts]):
                return (word, car)
    return None


def least_length(rows, known):
    """The least length of a paper for rows."""
    length = 0
    while not can_tell(rows, length, known):
        length = length + 1
    return length


def paper_for(rows, length, known):
    """A paper of at most this length for rows that such a one tells."""
    if len(rows) == 0:
        return ("none",)
    if len(rows) == 1:
        return ("row", rows[0][:len(rows[0]) // 2])
    word, car = first_question(rows, length, known)
    return (word, car, tuple([(answer, paper_for(part, length - 1, known))
                              for answer, part in answers_to(rows, word, car)]))


def is_paper_for(rows, value):
    """Whether any value is a row paper for rows."""
    if len(rows) == 0:
        return has_size(value, 1, 1) and value[0] == "none"
    cars = len(rows[0]) // 2
    if len(rows) == 1:
        return has_size(value, 2, 2) and value[0] == "row" and is_parked(value[1]) and value[1] == rows[0][:cars]
    if not has_size(value, 3, 3) or value[0] not in WORDS or not is_within(value[1], 0, cars - 1):
        return False
    answers = answers_to(rows, value[0], value[1])
    if not has_size(value[2], len(answers), len(answers)):
        return False
    return all([is_part_for(answer, part, pair) for (answer, part), pair in zip(answers, value[2])])


def is_part_for(answer, rows, value):
    """Whether any value is a pair of an answer and of a row paper for the rows that give it."""
    if not has_size(value, 2, 2) or not is_integer(value[0]) or value[0] != answer:
        return False
    return is_paper_for(rows, value[1])


def row_questions(cars, clues):
    """The least length of a row paper for clues."""
    return least_length(rows_for(cars, clues), {})


def next_question(cars, clues):
    """A pair of a word and a car that a paper of the least length can ask first, or None if nothing must be asked."""
    rows = rows_for(cars, clues)
    if len(rows) < 2:
        return None
    known = {}
    return first_question(rows, least_length(rows, known), known)


def row_paper(cars, clues):
    """A row paper for clues of the least length."""
    rows = rows_for(cars, clues)
    known = {}
    return paper_for(rows, least_length(rows, known), known)


def is_row_paper(cars, clues, value):
    """Whether any value is a row paper for clues, of any length."""
    return is_paper_for(rows_for(cars, clues), value)
