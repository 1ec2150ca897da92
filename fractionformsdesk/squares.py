"""Square tables of whole numbers, as forms are told by them."""


def table_of(n, numbers):
    """The n rows of m(i, j), from the numbers that tell a form: each row of them from the slant on."""
    rows = [[0] * n for i in range(n)]
    told = 0
    for i in range(n):
        for j in range(i, n):
            rows[i][j] = numbers[told]
            rows[j][i] = numbers[told]
            told += 1
    return rows


def with_square(rows, a):
    """A form's rows when a y y is put to it, y being a new last unknown."""
    return [row + [0] for row in rows] + [[0] * len(rows) + [a]]


def without_row_and_column(rows, column):
    """The rows but the first, each without one column."""
    return [row[:column] + row[column + 1:] for row in rows[1:]]


def determinant(rows):
    """The determinant of a square table of at most a few rows."""
    if not rows:
        return 1
    total = 0
    sign = 1
    for column in range(len(rows)):
        total += sign * rows[0][column] * determinant(without_row_and_column(rows, column))
        sign = -sign
    return total


def swapped(rows, k):
    """A form's rows with its first unknown and the one at k in each other's place."""
    order = list(range(len(rows)))
    order[0] = k
    order[k] = 0
    return [[rows[i][j] for j in order] for i in order]


def first_with_another(rows, k):
    """A form's rows when its unknown at k is put in as itself and the first one together."""
    added = [[a + b for a, b in zip(rows[0], rows[k])]] + rows[1:]
    return [[row[0] + row[k]] + row[1:] for row in added]


def with_corner(rows):
    """The rows of an alike form whose first number isn't 0; the determinant isn't 0."""
    for k in range(len(rows)):
        if rows[k][k] != 0:
            return swapped(rows, k)
    # The slant is all 0, so with the first such k the corner becomes twice rows[0][k].
    others = [k for k in range(len(rows)) if rows[0][k] != 0]
    return first_with_another(rows, others[0])


def beyond_corner(rows, before):
    """What is left when the first unknown is split off, times the corner and over the corner before."""
    corner = rows[0][0]
    left = []
    for row in rows[1:]:
        # The division is exact: what comes of it is a determinant of whole numbers.
        left.append([(corner * row[j] - row[0] * rows[0][j]) // before for j in range(1, len(rows))])
    return left


def diagonal_of(rows):
    """Whole numbers ai so that the form is alike to a1 x1 x1 + ...; the determinant isn't 0."""
    left = rows
    before = 1
    found = []
    while left:
        left = with_corner(left)
        corner = left[0][0]
        # Split off is the fraction corner over before, which is corner times before over a square.
        found.append(corner * before)
        left = beyond_corner(left, before)
        before = corner
    return found
