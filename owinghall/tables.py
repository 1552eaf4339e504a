"""Square tables of whole numbers: the small table of a web, the determinant and the adjoint."""

from owinghall.webs import between, degree


def small_table(web):
    return table_among(web, list(range(1, web[0])))


def table_among(web, houses):
    return [row_among(web, house, houses) for house in houses]


def row_among(web, house, houses):
    return [degree(web, house) if other == house else -between(web, house, other) for other in houses]


def det(table):
    rows = table
    sign = 1
    last = 1
    while len(rows) > 0:
        place = first_filled(rows)
        if place == len(rows):
            return 0
        # Lifting a row over each row ahead of it turns the sign once.
        if place % 2 == 1:
            sign = -sign
        top = rows[place]
        rows = [reduced(top, row, last) for row in lacking(rows, place)]
        last = top[0]
    return sign * last


def first_filled(rows):
    for place, row in enumerate(rows):
        if row[0] != 0:
            return place
    return len(rows)


def reduced(top, row, last):
    # What is divided is a minor of the first table times the last step's head, so each quotient is whole.
    return [(top[0] * own - row[0] * above) // last for above, own in zip(top[1:], row[1:])]


def lacking(things, place):
    return things[:place] + things[place + 1:]


def adjoint(table):
    return [adjoint_row(table, row) for row in range(len(table))]


def adjoint_row(table, row):
    return [cofactor(table, column, row) for column in range(len(table))]


def cofactor(table, row, column):
    minor = det([lacking(kept, column) for kept in lacking(table, row)])
    return -minor if (row + column) % 2 == 1 else minor
