"""The search for a row of whole numbers at which a form is a given number."""

from fractionformsdesk.forms import value_at

GREATEST_SIZE_BY_N = {1: 40, 2: 40, 3: 10, 4: 5}


def numbers_up_to(size):
    """0, 1, -1, 2, -2 and so on, up to a size."""
    numbers = [0]
    for k in range(1, size + 1):
        numbers.extend([k, -k])
    return numbers


def rows_of_size(n, size):
    """The rows of n numbers of just this size, in order, but those whose first number beside 0 is below 0."""
    # A form's number is the same at a row and at its minus, and of the two the one that begins below 0 comes later.
    numbers = numbers_up_to(size)
    first_numbers = list(range(size + 1))
    rows = [[]]
    for place in range(n):
        longer = []
        for row in rows:
            further = numbers if any(row) else first_numbers
            longer.extend([row + [number] for number in further])
        rows = longer
    return [row for row in rows if size in row or -size in row]


def first_row(form, t):
    """The first row, not all 0, of the least size at which the form is t; None if there's none that is small enough."""
    for size in range(1, GREATEST_SIZE_BY_N[form.n] + 1):
        for row in rows_of_size(form.n, size):
            if value_at(form, row) == t:
                return row
    return None
