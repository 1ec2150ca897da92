"""The desk: a list of calls about two forms, and what is answered to each."""

from fractionformsdesk.forms import (
    Form, class_of, count_above, count_below, has_zero, has_zero_at, makes, makes_at, primes_with_minus, symbol_of,
    value_at, why_not_alike)
from fractionformsdesk.primes import is_place
from fractionformsdesk.search import first_row
from fractionformsdesk.squares import determinant, table_of

MOST_UNKNOWNS = 4
GREATEST_NUMBER = 10
GREATEST_ASKED = 1000


class NotTaken(ValueError):
    """Refusal -1: what is told with the call is not as it is to be."""


class NoDeterminant(ValueError):
    """Refusal -3: the determinant is 0."""


class NoRow(ValueError):
    """Refusal -8: there's no row that is small enough."""


class Desk:
    """This form and the other one, both x x at the beginning."""

    def __init__(self):
        self.this_form = Form([[1]])
        self.other_form = Form([[1]])


class Reader:
    """Goes through a list of calls, number by number, and leaves it as it is."""

    def __init__(self, calls):
        self.calls = calls
        self.position = 0

    def is_done(self):
        return self.position >= len(self.calls)

    def read_number(self):
        number = self.calls[self.position]
        self.position += 1
        return number

    def read_row(self):
        size = self.read_number()
        row = self.calls[self.position:self.position + size]
        self.position += size
        return row


# Whoever reads a call reads the whole of it before refusing, or the next call would begin within it.


def check_sizes(numbers, greatest):
    if any([abs(number) > greatest for number in numbers]):
        raise NotTaken()


def read_form(reader):
    n = reader.read_number()
    numbers = reader.read_row()
    if n < 1 or n > MOST_UNKNOWNS or len(numbers) != n * (n + 1) // 2:
        raise NotTaken()
    check_sizes(numbers, GREATEST_NUMBER)
    rows = table_of(n, numbers)
    if determinant(rows) == 0:
        raise NoDeterminant()
    return Form(rows)


def read_place(reader):
    place = reader.read_number()
    if not is_place(place):
        raise NotTaken()
    return place


def check_made(t):
    check_sizes([t], GREATEST_ASKED)
    if t == 0:
        raise NotTaken()


def answer_form(desk, reader):
    desk.this_form = read_form(reader)
    return [0]


def answer_other(desk, reader):
    desk.other_form = read_form(reader)
    return [0]


def answer_stays(desk, reader):
    form = desk.this_form
    primes = primes_with_minus(form)
    return [form.n, class_of(form), count_above(form), count_below(form), len(primes)] + primes


def answer_symbol(desk, reader):
    place = read_place(reader)
    return [0, symbol_of(desk.this_form, place)]


def answer_zero(desk, reader):
    return [1 if has_zero(desk.this_form) else 0]


def answer_zero_at(desk, reader):
    place = read_place(reader)
    return [1 if has_zero_at(desk.this_form, place) else 0]


def answer_makes(desk, reader):
    t = reader.read_number()
    check_made(t)
    return [1 if makes(desk.this_form, t) else 0]


def answer_makes_at(desk, reader):
    t = reader.read_number()
    place = read_place(reader)
    check_made(t)
    return [1 if makes_at(desk.this_form, t, place) else 0]


def answer_alike(desk, reader):
    why = why_not_alike(desk.this_form, desk.other_form)
    return [0] + why if why else [1]


def answer_found(desk, reader):
    t = reader.read_number()
    check_sizes([t], GREATEST_ASKED)
    row = first_row(desk.this_form, t)
    if row is None:
        raise NoRow()
    return [0] + row


def answer_value(desk, reader):
    row = reader.read_row()
    if len(row) != desk.this_form.n:
        raise NotTaken()
    check_sizes(row, GREATEST_ASKED)
    return [0, value_at(desk.this_form, row)]


ANSWER_BY_NUMBER = {
    0: answer_form,
    1: answer_other,
    2: answer_stays,
    3: answer_symbol,
    4: answer_zero,
    5: answer_zero_at,
    6: answer_makes,
    7: answer_makes_at,
    8: answer_alike,
    9: answer_found,
    10: answer_value,
}


def answer_call(desk, reader):
    """What is answered to the next call, number by number."""
    answer = ANSWER_BY_NUMBER[reader.read_number()]
    try:
        return answer(desk, reader)
    except NotTaken:
        return [-1]
    except NoDeterminant:
        return [-3]
    except NoRow:
        return [-8]


def answers(calls):
    """For each call of the list, in order: how many numbers are answered, then these."""
    desk = Desk()
    reader = Reader(calls)
    given = []
    while not reader.is_done():
        numbers = answer_call(desk, reader)
        given.append(len(numbers))
        given.extend(numbers)
    return given
